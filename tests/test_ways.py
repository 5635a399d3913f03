"""Words, costs, ways and their texts, as many, nth, cost and text show them."""

import unittest

from calling import all_told, cost, many, nth, run, run_on, sounds, text, told_text, told_way

BY_ITSELF = (1, -1)


class WordOrderTest(unittest.TestCase):

    def assert_order(self, lines, expected):
        """The words have these texts by their numbers, whatever order the lines stand in."""
        for order in (lines, lines[::-1], lines[1:] + lines[:1], lines[::2] + lines[1::2]):
            for number, characters in enumerate(expected):
                reading = next(line.split(" ")[0] for line in lines if line.split(" ")[1] == characters)
                pieces = [len(reading), number]
                self.assertEqual(run_on("".join(order), "0\n", text(reading, pieces)), [told_text(characters)])

    def test_by_readings_a_beginning_before_what_it_begins(self):
        self.assert_order(["b 1 0 0 0\n", "ab 2 0 0 5\n", "a 3 0 0 9\n", "aa 4 0 0 7\n", "aab 5 0 0 0\n", "B 6 0 0 8\n"],
                          ["6", "3", "4", "5", "2", "1"])

    def test_readings_by_characters_not_by_bytes_or_halves(self):
        self.assert_order(["\U00010000 1 0 0 0\n", "\uffff 2 0 0 0\n", "z 3 0 0 0\n", "\u00e9 4 0 0 0\n", "Z 5 0 0 0\n"],
                          ["5", "3", "4", "2", "1"])

    def test_of_one_reading_by_costs(self):
        self.assert_order(["a A 9 9 100\n", "a B 0 0 20\n", "a C 3 3 3\n", "a D 0 0 0\n"], ["D", "C", "B", "A"])

    def test_of_one_cost_by_texts(self):
        self.assert_order(["a BA 0 0 1\n", "a C 1 1 1\n", "a B 9 9 1\n", "a A 5 5 1\n", "a \U00010000 0 0 1\n",
                           "a \uffff 0 0 1\n"], ["A", "B", "BA", "C", "\uffff", "\U00010000"])

    def test_by_readings_then_costs_then_texts(self):
        self.assert_order(["b A 0 0 0\n", "a B 0 0 2\n", "a C 0 0 1\n", "aa E 0 0 1\n", "aa D 0 0 1\n", "a Z 0 0 1\n"],
                          ["C", "Z", "B", "D", "E", "A"])

    def test_numbers_told_by_nth(self):
        lexicon = "b Y 0 0 4\na X 0 0 3\nb X 0 0 4\na Z 0 0 1\n"
        self.assertEqual(all_told(lexicon, "9\n", "ab"),
                         [told_way(5, (1, 0), (1, 2)), told_way(5, (1, 0), (1, 3)), told_way(7, (1, 1), (1, 2)),
                          told_way(7, (1, 1), (1, 3)), told_way(10, (1, 0), BY_ITSELF), told_way(12, (1, 1), BY_ITSELF),
                          told_way(13, BY_ITSELF, (1, 2)), told_way(13, BY_ITSELF, (1, 3)),
                          told_way(18, BY_ITSELF, BY_ITSELF)])

    def test_the_last_of_128_words(self):
        lexicon = "".join(f"a {number:03} 0 0 {number}\n" for number in reversed(range(128)))
        told = run_on(lexicon, "127\n", many("a"), nth(127, "a"), nth(128, "a"), nth(129, "a"), text("a", [1, 127]),
                      cost("a", [1, 127]), cost("a", [1, 128]), many("a", [], [0, 127]), many("a", [], [0, 128]))
        self.assertEqual(told, [[129], told_way(127, (1, 127)), told_way(127, BY_ITSELF), [-5], told_text("127"), [127],
                                [-5], [1], [-3]])


class WordLengthTest(unittest.TestCase):

    def test_words_of_1_to_24_sounds(self):
        whole = "abcdefghijklmnopqrstuvwx"
        for length in range(1, 25):
            lexicon = f"{whole[:length]} W 1 2 3\n"
            word = told_way(3 + 100 * (24 - length), (length, 0), *[BY_ITSELF] * (24 - length))
            told = run_on(lexicon, "100\n", many(whole), nth(0, whole), nth(1, whole), nth(2, whole), text(whole, word[2:]))
            self.assertEqual(told, [[2], word, told_way(2400, *[BY_ITSELF] * 24), [-5],
                                    told_text("W" + whole[length:])])

    def test_words_at_the_end_and_within(self):
        whole = "abcdefghijklmnopqrstuvwx"
        for start, end in ((23, 24), (1, 24), (12, 24), (1, 23), (5, 7)):
            pieces = [BY_ITSELF] * start + [(end - start, 0)] + [BY_ITSELF] * (24 - end)
            told = run_on(f"{whole[start:end]} W 0 0 0\n", "7\n", many(whole), nth(0, whole))
            self.assertEqual(told, [[2], told_way(7 * (24 - end + start), *pieces)])

    def test_word_whose_reading_is_longer_than_the_reading(self):
        for length in (2, 24, 25, 32):
            lexicon = f"{'a' * length} W 0 0 0\n"
            told = run_on(lexicon, "7\n", many("a"), nth(0, "a"), nth(1, "a"), cost("a", [1, 0]), cost("a", [length, 0]),
                          text("a", [length, 0]), many("a", [], [0, 0]), nth(0, "a", [], [0, 0]))
            self.assertEqual(told, [[1], told_way(7, BY_ITSELF), [-5], [-5], [-5], [-5], [0], [-5]])

    def test_word_that_runs_over_the_end(self):
        self.assertEqual(run_on("bc W 0 0 0\n", "7\n", many("ab"), many("abc"), many("bca"), many("cb")),
                         [[1], [2], [2], [1]])


class CostTest(unittest.TestCase):

    def test_sound_by_itself_has_sorts_0_and_0(self):
        lexicon = "a A 1 2 10\nc C 3 4 20\n"
        told = run_on(lexicon, "40\n0 3 100\n2 0 1000\n0 1 10000\n4 0 50000\n", cost("abc", [1, 0, 1, -1, 1, 1]),
                      cost("ac", [1, 0, 1, 1]), cost("b", [1, -1]), cost("ba", [1, -1, 1, 0]), cost("cb", [1, 1, 1, -1]))
        self.assertEqual(told, [[10000 + 10 + 1000 + 40 + 100 + 20 + 50000], [10000 + 10 + 20 + 50000], [40],
                                [40 + 10000 + 10 + 1000], [100 + 20 + 50000 + 40]])

    def test_join_of_sort_0_and_0(self):
        told = run_on("a A 0 0 5\n", "40\n0 0 7\n", cost("b", [1, -1]), cost("bb", [1, -1, 1, -1]),
                      cost("bbb", [1, -1, 1, -1, 1, -1]), cost("a", [1, 0]), cost("ab", [1, 0, 1, -1]), nth(0, "bb"))
        self.assertEqual(told, [[54], [101], [148], [19], [66], told_way(101, BY_ITSELF, BY_ITSELF)])

    def test_joins_of_sort_0_at_the_ends_only(self):
        lexicon = "a A 1 1 5\n"
        told = run_on(lexicon, "40\n0 1 7\n1 0 70\n0 0 700\n", cost("a", [1, 0]), cost("aa", [1, 0, 1, 0]))
        self.assertEqual(told, [[82], [87]])

    def test_joins_by_right_then_left_sort(self):
        lexicon = "a A 1 2 0\n"
        told = run_on(lexicon, "9\n2 1 30\n1 2 4\n", cost("aa", [1, 0, 1, 0]), cost("aaa", [1, 0] * 3))
        self.assertEqual(told, [[30], [60]])

    def test_sorts_up_to_255(self):
        lexicon = "a A 255 254 0\nb B 254 255 0\n"
        told = run_on(lexicon, "9\n254 254 1\n255 0 20\n0 255 300\n255 255 4000\n", cost("ab", [1, 0, 1, 1]),
                      cost("ba", [1, 1, 1, 0]), cost("abab", [1, 0, 1, 1] * 2))
        self.assertEqual(told, [[321], [4000], [4322]])

    def test_joins_told_with_cost_0_and_not_told(self):
        self.assertEqual(run_on("a A 1 1 5\n", "9\n1 1 0\n", cost("aa", [1, 0, 1, 0])), [[10]])
        self.assertEqual(run_on("a A 1 1 5\n", "9\n", cost("aa", [1, 0, 1, 0])), [[10]])

    def test_sound_by_itself_on_a_new_object(self):
        told = run(many("ab"), nth(0, "ab"), cost("ab", [1, -1, 1, -1]), text("ab", [1, -1, 1, -1]), cost("a", [1, 0]))
        self.assertEqual(told, [[1], told_way(131070, BY_ITSELF, BY_ITSELF), [131070], told_text("ab"), [-5]])

    def test_sound_by_itself_for_nothing(self):
        self.assertEqual(run_on("", "0\n", nth(0, "abc"), cost("a", [1, -1])), [told_way(0, *[BY_ITSELF] * 3), [0]])

    def test_greatest_cost(self):
        lexicon = "a A 1 1 65535\n"
        told = run_on(lexicon, "65535\n0 1 65535\n1 1 65535\n1 0 65535\n", cost("a" * 24, [1, 0] * 24))
        self.assertEqual(told, [[65535 * 49]])

    def test_order_among_costs_above_65535(self):
        lexicon = "a A 0 1 65535\na B 0 2 65534\nb C 3 0 65535\n"
        told = all_told(lexicon, "65535\n1 3 65535\n2 3 65535\n", "ab")
        self.assertEqual(told, [told_way(131069, (1, 0), BY_ITSELF), told_way(131070, (1, 1), BY_ITSELF),
                                told_way(131070, BY_ITSELF, (1, 2)), told_way(131070, BY_ITSELF, BY_ITSELF),
                                told_way(196604, (1, 0), (1, 2)), told_way(196605, (1, 1), (1, 2))])


class TextTest(unittest.TestCase):

    def test_texts_of_words_and_sounds(self):
        lexicon = "\u304b\u3093 \u6f22 1 1 1\n\u3058 \u5b57\U00020000x 1 1 1\n"
        reading = "\u304b\u3093\u3058\u304b"
        told = run_on(lexicon, "9\n", nth(0, reading), text(reading, [2, 0, 1, 1, 1, -1]))
        self.assertEqual(told, [told_way(11, (2, 0), (1, 1), BY_ITSELF), [5, 0x6F22, 0x5B57, 0x20000, 0x78, 0x304B]])

    def test_longest_text(self):
        lexicon = f"a {'x' * 32} 0 0 0\n"
        self.assertEqual(run_on(lexicon, "9\n", text("a" * 24, [1, 0] * 24)), [told_text("x" * 768)])

    def test_sounds_that_may_stand_in_no_word(self):
        reading = [0, 0x0A, 0x20, 0x7F, 0xD7FF, 0xE000, 0x10FFFF]
        told = run_on("a A 0 0 0\n", "1\n", many(reading), nth(0, reading), text(reading, [1, -1] * 7))
        self.assertEqual(told, [[1], told_way(7, *[BY_ITSELF] * 7), [7] + reading])

    def test_words_of_the_last_characters(self):
        lexicon = "\U0010ffff\ue000 \ud7ff 0 0 3\n"
        reading = [0x10FFFF, 0xE000]
        told = run_on(lexicon, "9\n", nth(0, reading), text(reading, [2, 0]), cost(reading, [2, 0]))
        self.assertEqual(told, [told_way(3, (2, 0)), [1, 0xD7FF], [3]])


class SettledTest(unittest.TestCase):

    LEXICON = "a A 0 0 1\nab B 0 0 2\nb C 0 0 4\nbc D 0 0 8\nc E 0 0 16\nabc F 0 0 32\n"

    def pieces_kept(self, cuts=(), choices=()):
        return [tuple(way[3::2]) for way in all_told(self.LEXICON, "1000\n", "abc", cuts, choices)]

    def test_words_are_numbered(self):
        told = run_on(self.LEXICON, "0\n", text("abc", [3, 2]), text("abc", [2, 1, 1, 5]), text("abc", [1, 0, 2, 4]),
                      text("b", [1, 3]))
        self.assertEqual(told, [told_text("F"), told_text("BE"), told_text("AD"), told_text("C")])

    def test_nothing_settled(self):
        everything = self.pieces_kept()
        self.assertEqual(len(everything), 13)
        for cuts in ([0], [0, 0]):
            self.assertEqual(self.pieces_kept(cuts), everything)

    def test_missing_cuts_are_0(self):
        for cut in (0, 1, 2):
            self.assertEqual(self.pieces_kept([cut]), self.pieces_kept([cut, 0]))

    def test_cuts(self):
        self.assertEqual(self.pieces_kept([2, 2]), [(2,)])
        self.assertEqual(self.pieces_kept([2, 1]), [(1, 5), (1, -1)])
        self.assertEqual(self.pieces_kept([1, 2]), [(0, 4), (-1, 4)])
        self.assertEqual(self.pieces_kept([2]), [(1, 5), (2,), (1, -1)])
        self.assertEqual(self.pieces_kept([0, 2]), [(0, 4), (2,), (-1, 4)])
        self.assertEqual(len(self.pieces_kept([1, 1])), 8)
        self.assertEqual(len(self.pieces_kept([1])), 10)
        self.assertEqual(len(self.pieces_kept([0, 1])), 10)

    def test_choices(self):
        self.assertEqual(self.pieces_kept([], [0, 2]), [(2,)])
        self.assertEqual(self.pieces_kept([], [0, 1]), [(1, 5), (1, -1)])
        self.assertEqual(self.pieces_kept([], [1, 4]), [(0, 4), (-1, 4)])
        self.assertEqual(self.pieces_kept([], [2, 5]), [(1, 5), (0, 3, 5), (0, -1, 5), (-1, 3, 5), (-1, -1, 5)])
        self.assertEqual(self.pieces_kept([], [0, 0, 2, -1]), [(0, 3, -1), (0, -1, -1)])
        self.assertEqual(self.pieces_kept([], [0, -1, 1, -1, 2, -1]), [(-1, -1, -1)])

    def test_cuts_and_choices(self):
        self.assertEqual(self.pieces_kept([1, 2], [0, -1]), [(-1, 4)])
        self.assertEqual(self.pieces_kept([0, 1], [1, 3]), [(0, 3, 5), (0, 3, -1), (-1, 3, 5), (-1, 3, -1)])

    def test_where_none_keeps_it(self):
        for cuts, choices in (([], [0, 3]), ([], [1, 0]), ([], [2, 4]), ([], [2, 2]), ([2], [1, 3]), ([2], [0, 0]),
                              ([0, 2], [2, 5]), ([1], [0, 1]), ([0, 1], [1, 4]), ([], [0, 2, 1, 3]), ([], [0, 1, 1, -1]),
                              ([1, 1], [0, 2])):
            told = run_on(self.LEXICON, "9\n", many("abc", cuts, choices), nth(0, "abc", cuts, choices),
                          nth(2097151, "abc", cuts, choices))
            self.assertEqual(told, [[0], [-5], [-5]], (cuts, choices))

    def test_numbers_are_those_among_the_ways_that_keep_it(self):
        told = run_on(self.LEXICON, "1000\n", nth(0, "abc"), nth(0, "abc", [2]), nth(1, "abc", [2]), nth(3, "abc", [2]))
        self.assertEqual(told, [told_way(9, (1, 0), (2, 4)), told_way(18, (2, 1), (1, 5)), told_way(32, (3, 2)), [-5]])

    def test_places_of_the_longest_reading(self):
        reading = sounds("a" * 24)
        lexicon = f"{'a' * 24} X 0 0 5\n{'a' * 23} Y 0 0 5\n"
        told = run_on(lexicon, "1\n", many(reading), many(reading, [2]), many(reading, [0] * 22 + [2]),
                      many(reading, [0] * 22 + [1]), many(reading, [0] * 11 + [1]), many(reading, [2] * 23),
                      nth(0, reading, [2] * 23), nth(0, reading, [], [23, -1]), nth(0, reading, [], [1, 0]))
        self.assertEqual(told, [[4], [2], [2], [2], [1], [1], told_way(5, (24, 1)), told_way(6, (23, 0), BY_ITSELF),
                                told_way(6, BY_ITSELF, (23, 0))])

    def test_readings_of_one_sound(self):
        told = run_on("a A 0 0 1\n", "5\n", many("a"), many("a", [], [0, 0]), many("a", [], [0, -1]),
                      nth(0, "a", [], [0, -1]), nth(1, "a", [], [0, -1]))
        self.assertEqual(told, [[2], [1], [1], told_way(5, BY_ITSELF), [-5]])


if __name__ == "__main__":
    unittest.main()
