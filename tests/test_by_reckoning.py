"""D1, D2 and D3: lexicons, joins, readings and what's settled of many kinds, against a plain reckoning of all ways."""

import random
import unittest

import reckoning
from calling import RUN_JOINS, RUN_LEXICON, all_told, cost, many, nth, run_on, text, told_text, told_way


def some_lexicon(chance, letters):
    """Words of which some have one reading, some one cost, some one text."""
    lines = {}
    for word in range(chance.choice([0, 1, 2, 3, 4, 5, 6, 8, 12])):
        reading = "".join(chance.choices(letters, k=chance.choice([1, 1, 1, 2, 2, 3, 4])))
        written = "".join(chance.choices("XYZ", k=chance.choice([1, 1, 2])))
        left, right = chance.choices([0, 1, 2, 3], k=2)
        lines[reading, written] = f"{reading} {written} {left} {right} {chance.choice([0, 1, 2, 3, 5, 65535])}\n"
    return "".join(chance.sample(sorted(lines.values()), len(lines)))


def some_joins(chance):
    sorts = [(right, left) for right in range(4) for left in range(4)]
    told = chance.sample(sorts, chance.choice([0, 2, 5, 16]))
    lines = [f"{right} {left} {chance.choice([0, 1, 2, 4, 65535])}\n" for right, left in told]
    return f"{chance.choice([0, 1, 3, 40, 65535])}\n" + "".join(lines)


def some_settled(chance, reading, word_count):
    cuts = [chance.choice([0, 0, 0, 1, 2]) for place in range(chance.randrange(len(reading)))]
    choices = []
    for place in range(len(reading)):
        if chance.random() < 0.15:
            choices += [place, chance.randrange(-1, word_count)]
    return chance.choice([([], []), (cuts, []), ([], choices), (cuts, choices)])


class ReckoningTest(unittest.TestCase):

    def assert_all_told(self, lexicon, join_text, reading, cuts, choices):
        """D1 and D2: nth tells each way once, in order, as many as many counts; cost and text answer as it tells."""
        expected = reckoning.told(lexicon, join_text, reading, cuts, choices)
        seen = (lexicon, join_text, reading, cuts, choices)
        if expected is None:
            told = run_on(lexicon, join_text, many(reading, cuts, choices), nth(0, reading, cuts, choices))
            self.assertEqual(told, [[-6], [-6]], seen)
            return
        told = run_on(lexicon, join_text, many(reading, cuts, choices), nth(len(expected), reading, cuts, choices))
        self.assertEqual(told, [[len(expected)], [-5]], seen)
        words = reckoning.words_in_order(lexicon)
        calls = []
        answers = []
        for number, (costs, way) in enumerate(expected):
            pieces = [part for piece in way for part in piece]
            calls += [nth(number, reading, cuts, choices), cost(reading, pieces), text(reading, pieces)]
            answers += [told_way(costs, *way), [costs], told_text(reckoning.text_of(way, words, reading))]
        for told, answer in zip(run_on(lexicon, join_text, *calls), answers, strict=True):
            self.assertEqual(told, answer, seen)

    def test_the_run(self):
        self.assert_all_told(RUN_LEXICON, RUN_JOINS, "aab", [], [])
        self.assertEqual(len(reckoning.told(RUN_LEXICON, RUN_JOINS, "aab")), 12)

    def test_some_lexicons_and_readings(self):
        chance = random.Random(3)
        for step in range(400):
            letters = chance.choice(["a", "ab", "abc", "a\u3042\U00010000\uffff"])
            lexicon = some_lexicon(chance, letters)
            reading = "".join(chance.choices(letters, k=chance.choice([1, 2, 3, 4, 5])))
            cuts, choices = some_settled(chance, reading, lexicon.count("\n"))
            self.assert_all_told(lexicon, some_joins(chance), reading, cuts, choices)

    def test_longer_readings(self):
        chance = random.Random(4)
        for step in range(25):
            lexicon = some_lexicon(chance, "abc")
            reading = "".join(chance.choices("abc", k=chance.choice([7, 8, 9, 10, 11])))
            cuts, choices = some_settled(chance, reading, lexicon.count("\n"))
            self.assert_all_told(lexicon, some_joins(chance), reading, cuts, choices)

    def test_a_full_lexicon(self):
        lexicon = "".join(f"{reading} {number:02} {number % 3} {number % 2} {number // 8}\n"
                          for reading in ("a", "b", "ab", "ba") for number in range(32))
        self.assert_all_told(lexicon, "2\n0 1 1\n1 0 1\n1 2 3\n", "ab", [], [])
        self.assert_all_told(lexicon, "2\n0 1 1\n1 0 1\n1 2 3\n", "bab", [], [])


class SettlingMoreTest(unittest.TestCase):
    """D3."""

    LEXICON = "a A 1 1 3\na B 0 2 4\naa C 2 1 5\nab D 1 0 5\nb E 2 2 1\nbaa F 1 1 9\n"
    JOINS = "6\n0 1 2\n1 2 3\n2 0 1\n1 1 5\n"
    READING = "aabaa"

    def ways(self, cuts=(), choices=()):
        return all_told(self.LEXICON, self.JOINS, self.READING, cuts, choices)

    def test_a_way_whose_pieces_are_all_chosen_is_told_alone(self):
        everything = self.ways()
        self.assertGreater(len(everything), 100)
        for way in everything:
            pieces = list(zip(way[2::2], way[3::2], strict=True))
            choices = []
            place = 0
            for length, number in pieces:
                choices += [place, number]
                place += length
            self.assertEqual(self.ways([], choices), [way])

    def test_a_way_whose_cuts_and_pieces_are_all_settled_is_told_alone(self):
        told = self.ways([2, 1, 2, 2], [0, 2, 2, 5])
        self.assertEqual([way[2:] for way in told], [[2, 2, 3, 5]])

    def assert_leaves_out(self, fewer, more):
        """The second are the first ones, in their order, with some left out."""
        left = iter(more)
        self.assertTrue(all(way in left for way in fewer))

    def test_settling_more_only_leaves_ways_out(self):
        chance = random.Random(5)
        for step in range(20):
            cuts, choices = [0] * 4, []
            before = self.ways(cuts, choices)
            steps = [("cut", place) for place in range(4)] + [("choice", place) for place in range(5)]
            for kind, place in chance.sample(steps, 6):
                if kind == "cut":
                    cuts[place] = chance.choice([1, 2])
                else:
                    pairs = list(zip(choices[::2], choices[1::2], strict=True)) + [(place, chance.randrange(-1, 6))]
                    choices = [number for pair in sorted(pairs) for number in pair]
                behind = self.ways(cuts, choices)
                self.assert_leaves_out(behind, before)
                before = behind

    def test_a_cut_or_none_parts_the_ways(self):
        everything = self.ways()
        for place in range(4):
            cut, none = [self.ways([0] * place + [settled]) for settled in (1, 2)]
            self.assertEqual(len(cut) + len(none), len(everything))
            self.assertEqual(sorted(cut + none), sorted(everything))


if __name__ == "__main__":
    unittest.main()
