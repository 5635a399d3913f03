"""The refusals of many, nth, cost and text, and their order."""

import unittest

from calling import cost, many, nth, run, run_on, text, told_text, told_way

BY_ITSELF = (1, -1)
NO_CHARACTERS = (0xD800, 0xDBFF, 0xDC00, 0xDFFF, 0x110000, 2097151)
WORD_A = "a A 1 1 1\n"
# Of "a" five ways, of "b" five, of "c" 41: 1,025 of "abc".
LEXICON_OF_1025 = ("".join(f"a {number} 0 0 0\n" for number in range(4))
                   + "".join(f"b {number} 0 0 0\n" for number in range(4))
                   + "".join(f"c {number} 0 0 0\n" for number in range(40)))


def settling(reading, cuts=(), choices=()):
    """Both calls that take what's settled."""
    return [many(reading, cuts, choices), nth(0, reading, cuts, choices)]


def telling(reading, pieces):
    """Both calls that take pieces."""
    return [cost(reading, pieces), text(reading, pieces)]


class ReadingTest(unittest.TestCase):

    def test_no_sound_or_above_24(self):
        for reading in ("", "a" * 25, "a" * 40):
            told = run_on(WORD_A, "9\n", *settling(reading), *telling(reading, [1, -1] * len(reading)))
            self.assertEqual(told, [[-1]] * 4, reading)

    def test_1_and_24_sounds(self):
        for reading in ("b", "b" * 24):
            told = run_on(WORD_A, "9\n", *settling(reading), *telling(reading, [1, -1] * len(reading)))
            self.assertEqual(told, [[1], told_way(9 * len(reading), *[BY_ITSELF] * len(reading)), [9 * len(reading)],
                                    told_text(reading)])

    def test_no_sound_or_above_24_with_everything_else_wrong(self):
        for reading in ([], [0xD800] * 25, [0x61] * 24 + [0x110000], [2097151] * 40, [0x61] * 25):
            for cuts, choices in (([3] * 40, [-1, -2, 5]), ([3], [0, 7]), ([], [0]), ([], [-5, 0]), ([2097151] * 40, [])):
                told = run_on(WORD_A, "9\n", *settling(reading, cuts, choices), nth(2097151, reading, cuts, choices))
                self.assertEqual(told, [[-1]] * 3)
            for pieces in ([1], [-1, 0], [-1, -2, 0], [], [0, 0], [1, 9]):
                self.assertEqual(run_on(WORD_A, "9\n", *telling(reading, pieces)), [[-1]] * 2)

    def test_sound_that_is_no_character(self):
        for number in NO_CHARACTERS:
            for reading in ([number], [0x61, number], [number, 0x61], [0x61] * 23 + [number], [0x61, number, 0x61]):
                told = run_on(WORD_A, "9\n", *settling(reading), *telling(reading, [1, -1] * len(reading)),
                              *telling(reading, []), *telling(reading, [1, 5]))
                self.assertEqual(told, [[-3]] * 8, reading)

    def test_characters_around_those_that_are_none(self):
        for number in (0, 0xD7FF, 0xE000, 0x10FFFF):
            self.assertEqual(run_on(WORD_A, "9\n", many([number]), cost([number], [1, -1])), [[1], [9]])


class FormOfSettledTest(unittest.TestCase):

    WRONG_CUTS = ([0, 0, 0], [0] * 4, [0] * 40, [1, 1, 1], [3], [0, 3], [3, 0], [2097151], [0, 0, 3], [1, 4])
    WRONG_CHOICES = ([0], [0, 0, 1], [-1], [-1, 0], [-1, -1], [-2097152, -1], [0, 0, -1, 0], [0, -1, 0, -1], [1, 0, 1, 0],
                     [1, -1, 0, -1], [0, -1, 2, -1, 1, -1], [3, -1], [4, -1], [0, -1, 3, -1], [2097151, -1], [0, 1],
                     [0, 128], [0, 2097151], [0, -2], [0, -2097152], [0, -1, 1, -2], [1, 1], [0, -1, 1, 1],
                     [0, 0, 1, 0, 2, 0, 3, 0], [0, -1] * 30)

    def test_cuts_of_wrong_form(self):
        for cuts in self.WRONG_CUTS:
            told = run_on(WORD_A, "9\n", *settling("aaa", cuts), nth(2097151, "aaa", cuts))
            self.assertEqual(told, [[-3]] * 3, cuts)

    def test_as_many_cuts_as_sounds(self):
        for count in (1, 2, 9, 10):
            told = run_on(WORD_A, "9\n", *settling("a" * count, [0] * count), many("a" * count, [0] * (count - 1)))
            self.assertEqual(told, [[-3], [-3], [1 << count]])

    def test_choices_of_wrong_form(self):
        for choices in self.WRONG_CHOICES:
            told = run_on(WORD_A, "9\n", *settling("aaa", [], choices), nth(2097151, "aaa", [], choices))
            self.assertEqual(told, [[-3]] * 3, choices)

    def test_choices_of_right_form(self):
        for choices, count in (([], 8), ([0, 0], 4), ([0, -1], 4), ([2, 0], 4), ([0, 0, 2, -1], 2), ([0, 0, 1, -1, 2, 0], 1)):
            self.assertEqual(run_on(WORD_A, "9\n", many("aaa", [], choices)), [[count]])

    def test_each_where_none_would_keep_what_else_is_settled(self):
        self.assertEqual(run_on(WORD_A, "9\n", *settling("aaa", [2, 2], [0, 1])), [[-3]] * 2)
        self.assertEqual(run_on(WORD_A, "9\n", *settling("aaa", [2, 2], [0, 0])), [[0], [-5]])

    def test_a_choices_word_without_any_words(self):
        self.assertEqual(run(*settling("a", [], [0, 0]), *settling("a", [], [0, -1])),
                         [[-3], [-3], [1], told_way(65535, BY_ITSELF)])

    def test_each_with_more_than_1024_ways_too(self):
        reading = "a" * 11
        self.assertEqual(run_on(WORD_A, "9\n", *settling(reading)), [[-6]] * 2)
        for cuts in ([0] * 11, [0] * 12, [3], [0] * 9 + [3], [2097151]):
            self.assertEqual(run_on(WORD_A, "9\n", *settling(reading, cuts)), [[-3]] * 2)
        for choices in ([0], [-1, 0], [0, -1, 0, -1], [1, -1, 0, -1], [11, -1], [12, 0], [0, 1], [0, -2], [0, -2097152]):
            self.assertEqual(run_on(WORD_A, "9\n", *settling(reading, [], choices)), [[-3]] * 2)
        for number in NO_CHARACTERS:
            self.assertEqual(run_on(WORD_A, "9\n", *settling([0x61] * 11 + [number])), [[-3]] * 2)


class TooManyWaysTest(unittest.TestCase):

    def test_1024_ways_are_told(self):
        reading = "a" * 10
        told = run_on(WORD_A, "5\n", many(reading), nth(0, reading), nth(1023, reading), nth(1024, reading))
        self.assertEqual(told, [[1024], told_way(10, *[(1, 0)] * 10), told_way(50, *[BY_ITSELF] * 10), [-5]])

    def test_1025_ways_are_too_many(self):
        told = run_on(LEXICON_OF_1025, "5\n", *settling("abc"), nth(2097151, "abc"), many("ac"), many("bc"), many("ab"))
        self.assertEqual(told, [[-6], [-6], [-6], [205], [205], [25]])

    def test_whatever_is_settled(self):
        reading = "a" * 11
        for cuts, choices in (([1] * 10, []), ([2], []), ([2] * 10, []), ([], [0, 0]), ([], [10, -1]),
                              ([], [number for place in range(11) for number in (place, 0)])):
            told = run_on(WORD_A, "5\n", *settling(reading, cuts, choices), nth(2097151, reading, cuts, choices))
            self.assertEqual(told, [[-6]] * 3)
        self.assertEqual(run_on(LEXICON_OF_1025, "5\n", *settling("abc", [], [2, -1]), *settling("abc", [2])), [[-6]] * 4)

    def test_far_too_many(self):
        lexicon = "".join(f"a {number} 0 0 0\n" for number in range(128))
        self.assertEqual(run_on(lexicon, "5\n", *settling("a" * 24)), [[-6]] * 2)
        lexicon = "".join(f"{'a' * length} {number} 0 0 0\n" for length in range(1, 25) for number in range(5))
        self.assertEqual(run_on(lexicon, "5\n", *settling("a" * 24)), [[-6]] * 2)

    def test_ways_by_longer_words(self):
        # With one word of two sounds there are 987 ways of 15 sounds, 1,597 of 16.
        told = run_on("aa A 0 0 1\n", "5\n", many("a" * 15), many("a" * 16), nth(0, "a" * 15), nth(986, "a" * 15),
                      nth(987, "a" * 15), nth(0, "a" * 16))
        self.assertEqual(told, [[987], [-6], told_way(12, *[(2, 0)] * 7, BY_ITSELF), told_way(75, *[BY_ITSELF] * 15), [-5],
                                [-6]])

    def test_words_that_stand_nowhere_do_not_count(self):
        lexicon = WORD_A + "".join(f"b {number} 0 0 0\n" for number in range(127))
        self.assertEqual(run_on(lexicon, "5\n", many("a" * 10)), [[1024]])

    def test_cost_and_text_do_not_refuse_it(self):
        told = run_on(WORD_A, "5\n", *telling("a" * 24, [1, 0] * 24), *telling("a" * 24, [1, 0] * 23))
        self.assertEqual(told, [[24], told_text("A" * 24), [-5], [-5]])


class PiecesTest(unittest.TestCase):

    LEXICON = "a A 1 1 1\naa B 2 2 2\nab C 3 3 3\n"

    def assert_refused(self, reading, pieces, refusal):
        told = run_on(self.LEXICON, "9\n", *telling(reading, pieces))
        self.assertEqual(told, [[refusal]] * 2, (reading, pieces))

    def test_odd_row(self):
        for pieces in ([1], [3], [-1], [1, 0, 1], [1, 0, 1, 0, 1], [0], [1, 0, 1, 0, 1, 0, 7], [1, 9, 1]):
            self.assert_refused("aaa", pieces, -3)

    def test_how_many_sounds_below_0(self):
        for pieces in ([-1, 0], [-1, -1], [-2097152, 0], [1, 0, -1, 0], [1, 0, 1, 0, 1, 0, -1, -1], [9, 9, -1, 0],
                       [-1, 0, 4, 0], [4, 0, -1, 0]):
            self.assert_refused("aaa", pieces, -3)

    def test_word_that_there_is_not(self):
        for number in (3, 128, 2097151, -2, -3, -2097152):
            for pieces in ([1, number, 1, 0, 1, 0], [1, 0, 1, 0, 1, number], [2, 1, 1, number], [3, number]):
                self.assert_refused("aaa", pieces, -5)

    def test_how_many_sounds_is_not_the_words(self):
        for pieces in ([2, 0, 1, 0], [1, 1, 2, 1], [3, 1], [1, 1, 1, 1, 1, 1], [2097151, 0], [2, 0, 2, 1], [3, 0]):
            self.assert_refused("aaa", pieces, -5)

    def test_0_sounds(self):
        for pieces in ([0, 0], [0, -1], [0, 0, 1, 0, 1, 0, 1, 0], [1, 0, 1, 0, 1, 0, 0, -1], [1, 0, 0, -1, 2, 1],
                       [1, 0, 1, 0, 0, 0, 1, 0], [0, -1] * 40):
            self.assert_refused("aaa", pieces, -5)

    def test_too_few_and_too_many_pieces(self):
        for pieces in ([1, 0], [1, 0, 1, 0], [2, 1], [1, 0] * 4, [2, 1, 2, 1], [1, -1] * 4, [1, -1] * 2, [1, 0] * 40,
                       [2, 1, 1, 0, 1, 0], [1, 0, 1, 0, 2, 1]):
            self.assert_refused("aaa", pieces, -5)

    def test_no_pieces(self):
        for reading in ("a", "aaa", "b" * 24):
            self.assert_refused(reading, [], -5)

    def test_sound_by_itself_of_two_sounds(self):
        for pieces in ([2, -1, 1, -1], [1, -1, 2, -1], [3, -1], [2, -1, 1, 0]):
            self.assert_refused("aaa", pieces, -5)

    def test_word_whose_reading_does_not_stand_there(self):
        for reading, pieces in (("b", [1, 0]), ("aab", [2, 2, 1, -1]), ("aba", [2, 1, 1, 0]), ("aba", [1, 0, 2, 2]),
                                ("aba", [1, 0, 1, 0, 1, 0])):
            self.assert_refused(reading, pieces, -5)

    def test_ways_are_taken(self):
        for pieces, costs, characters in (([2, 1, 1, 0], 3, "BA"), ([1, 0, 2, 1], 3, "AB"), ([1, -1, 2, 1], 11, "aB"),
                                          ([1, -1, 1, 0, 1, -1], 19, "aAa")):
            self.assertEqual(run_on(self.LEXICON, "9\n", *telling("aaa", pieces)), [[costs], told_text(characters)])

    def test_without_any_words(self):
        self.assertEqual(run(*telling("a", [1, 0]), *telling("a", [1, -1])), [[-5], [-5], [65535], told_text("a")])


if __name__ == "__main__":
    unittest.main()
