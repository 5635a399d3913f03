"""The run that the document tells."""

import unittest

from calling import RUN_JOINS, RUN_LEXICON, cost, many, nth, run, run_on, text, told_text, told_way
from calling import joins, words

BY_ITSELF = (1, -1)
WORD_A, WORD_B, WORD_C, WORD_D = (1, 0), (2, 1), (2, 2), (1, 3)

TWELVE_WAYS = [
    told_way(30, WORD_C, WORD_D),
    told_way(40, WORD_B, WORD_D),
    told_way(45, WORD_A, WORD_A, WORD_D),
    told_way(55, WORD_A, BY_ITSELF, WORD_D),
    told_way(55, BY_ITSELF, WORD_A, WORD_D),
    told_way(65, WORD_C, BY_ITSELF),
    told_way(68, WORD_B, BY_ITSELF),
    told_way(80, WORD_A, WORD_A, BY_ITSELF),
    told_way(85, BY_ITSELF, BY_ITSELF, WORD_D),
    told_way(90, WORD_A, BY_ITSELF, BY_ITSELF),
    told_way(90, BY_ITSELF, WORD_A, BY_ITSELF),
    told_way(120, BY_ITSELF, BY_ITSELF, BY_ITSELF),
]


class RunTest(unittest.TestCase):

    def answers(self, *calls):
        return run_on(RUN_LEXICON, RUN_JOINS, *calls)

    def test_lexicon_and_joins(self):
        self.assertEqual(run(words(RUN_LEXICON), joins(RUN_JOINS)), [[4], [3]])

    def test_many(self):
        self.assertEqual(self.answers(many("aab")), [[12]])

    def test_all_twelve_ways(self):
        self.assertEqual(self.answers(*[nth(number, "aab") for number in range(12)]), TWELVE_WAYS)

    def test_first_way_number_by_number(self):
        self.assertEqual(self.answers(nth(0, "aab")), [[2, 30, 2, 2, 1, 3]])
        self.assertEqual(self.answers(nth(4, "aab")), [[3, 55, 1, -1, 1, 0, 1, 3]])

    def test_number_that_there_is_not(self):
        self.assertEqual(self.answers(nth(12, "aab"), nth(13, "aab"), nth(2097151, "aab")), [[-5]] * 3)

    def test_ways_whatever_order_the_lines_had(self):
        lines = RUN_LEXICON.splitlines(keepends=True)
        for order in (lines[::-1], lines[2:] + lines[:2], lines[1::2] + lines[::2]):
            told = run_on("".join(order), RUN_JOINS, *[nth(number, "aab") for number in range(12)])
            self.assertEqual(told, TWELVE_WAYS)

    def test_cut_at_place_1(self):
        kept = [way for way in TWELVE_WAYS if way[0] == 3]
        self.assertEqual(kept[0], told_way(45, WORD_A, WORD_A, WORD_D))
        for cuts in ([1], [1, 0]):
            told = self.answers(many("aab", cuts), *[nth(number, "aab", cuts) for number in range(9)])
            self.assertEqual(told, [[8]] + kept + [[-5]])

    def test_no_cut_at_place_1(self):
        kept = [told_way(30, WORD_C, WORD_D), told_way(40, WORD_B, WORD_D), told_way(65, WORD_C, BY_ITSELF),
                told_way(68, WORD_B, BY_ITSELF)]
        for cuts in ([2], [2, 0], [2, 1]):
            told = self.answers(many("aab", cuts), *[nth(number, "aab", cuts) for number in range(5)])
            self.assertEqual(told, [[4]] + kept + [[-5]])

    def test_choice_of_word_1_at_0(self):
        kept = [told_way(40, WORD_B, WORD_D), told_way(68, WORD_B, BY_ITSELF)]
        told = self.answers(many("aab", [], [0, 1]), *[nth(number, "aab", [], [0, 1]) for number in range(3)])
        self.assertEqual(told, [[2]] + kept + [[-5]])

    def test_cost_and_text_of_B_D(self):
        self.assertEqual(self.answers(cost("aab", [2, 1, 1, 3]), text("aab", [2, 1, 1, 3])), [[40], [2, 0x42, 0x44]])

    def test_cost_and_text_of_each_way(self):
        texts = ["CD", "BD", "AAD", "AaD", "aAD", "Cb", "Bb", "AAb", "aaD", "Aab", "aAb", "aab"]
        for way, characters in zip(TWELVE_WAYS, texts, strict=True):
            told = self.answers(cost("aab", way[2:]), text("aab", way[2:]))
            self.assertEqual(told, [[way[1]], told_text(characters)])


if __name__ == "__main__":
    unittest.main()
