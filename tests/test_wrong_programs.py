"""Each thing that the document calls wrong, by an input at which a program that does so would answer otherwise."""

import unittest

from calling import all_told, cost, many, nth, run_on, text, told_text, told_way

BY_ITSELF = (1, -1)


class WrongProgramsTest(unittest.TestCase):

    def test_1_longest_word_at_each_place(self):
        lexicon = "ab 1 0 0 5\nabc 2 0 0 5\ncd 3 0 0 5\n"
        told = run_on(lexicon, "100\n", many("abcd"), nth(0, "abcd"), nth(1, "abcd"))
        self.assertEqual(told, [[5], told_way(10, (2, 0), (2, 2)), told_way(105, (3, 1), BY_ITSELF)])
        # The longest word leaves no word behind it, yet by cost it comes after what's made of single sounds.
        told = run_on("a A 0 0 1\naa B 0 0 9\n", "100\n", nth(0, "aa"), nth(1, "aa"))
        self.assertEqual(told, [told_way(2, (1, 0), (1, 0)), told_way(9, (2, 1))])

    def test_2_joins_at_the_ends_left_out(self):
        lexicon = "a A 1 2 10\na B 3 4 20\n"
        told = run_on(lexicon, "500\n0 1 100\n", nth(0, "a"), nth(1, "a"), cost("a", [1, 0]))
        self.assertEqual(told, [told_way(20, (1, 1)), told_way(110, (1, 0)), [110]])
        told = run_on(lexicon, "500\n2 0 100\n", nth(0, "a"), nth(1, "a"), cost("a", [1, 0]))
        self.assertEqual(told, [told_way(20, (1, 1)), told_way(110, (1, 0)), [110]])
        told = run_on(lexicon, "500\n0 1 100\n2 0 1000\n", cost("a", [1, 0]), cost("a", [1, -1]))
        self.assertEqual(told, [[1110], [500]])

    def test_3_sounds_by_themselves_only_where_no_word_is(self):
        told = all_told("a A 0 0 1\n", "7\n", "a")
        self.assertEqual(told, [told_way(1, (1, 0)), told_way(7, BY_ITSELF)])
        told = all_told("a A 0 0 9\n", "7\n", "a")
        self.assertEqual(told, [told_way(7, BY_ITSELF), told_way(9, (1, 0))])
        told = all_told("ab A 0 0 1\n", "7\n", "ab")
        self.assertEqual(told, [told_way(1, (2, 0)), told_way(14, BY_ITSELF, BY_ITSELF)])

    def test_4_of_one_cost_the_shorter_piece_first(self):
        lexicon = "a A 0 0 1\naa B 0 0 2\naaa C 0 0 3\n"
        told = all_told(lexicon, "1\n", "aaa")
        self.assertEqual({way[1] for way in told}, {3})
        self.assertEqual([way[2::2] for way in told], [[3]] + [[2, 1]] * 2 + ([[1, 2]] + [[1, 1, 1]] * 4) * 2)
        self.assertEqual([way[3::2] for way in told],
                         [[2], [1, 0], [1, -1], [0, 1], [0, 0, 0], [0, 0, -1], [0, -1, 0], [0, -1, -1],
                          [-1, 1], [-1, 0, 0], [-1, 0, -1], [-1, -1, 0], [-1, -1, -1]])

    def test_4_of_one_cost_the_greater_number_first(self):
        told = all_told("a A 1 1 5\na B 2 2 5\na C 3 3 5\n", "5\n", "a")
        self.assertEqual(told, [told_way(5, (1, 0)), told_way(5, (1, 1)), told_way(5, (1, 2)), told_way(5, BY_ITSELF)])
        # Of one cost through the joins, though the words' own costs differ.
        told = all_told("a A 1 0 5\na B 2 0 3\n", "9\n0 2 2\n", "a")
        self.assertEqual(told, [told_way(5, (1, 0)), told_way(5, (1, 1)), told_way(9, BY_ITSELF)])

    def test_5_joins_by_left_and_right_changed_over(self):
        lexicon = "a A 1 2 0\nb B 3 4 0\n"
        for joined, costs in (("2 3", 50), ("3 2", 0), ("1 4", 0), ("4 1", 0), ("0 1", 50), ("1 0", 0), ("4 0", 50),
                              ("0 4", 0), ("1 3", 0), ("2 4", 0)):
            told = run_on(lexicon, f"900\n{joined} 50\n", cost("ab", [1, 0, 1, 1]), nth(0, "ab"))
            self.assertEqual(told, [[costs], told_way(costs, (1, 0), (1, 1))], joined)

    def test_6_what_follows_chosen_by_its_own_cost_alone(self):
        lexicon = "a A 1 1 10\nb B 2 2 1\nb C 3 3 5\n"
        told = run_on(lexicon, "500\n1 2 100\n", nth(0, "ab"), nth(1, "ab"))
        self.assertEqual(told, [told_way(15, (1, 0), (1, 2)), told_way(111, (1, 0), (1, 1))])
        # The first piece that is cheaper, with its join too, makes what's behind it dearer.
        lexicon = "a A 1 1 10\na B 2 2 20\nb C 3 3 5\n"
        told = run_on(lexicon, "500\n1 3 100\n", nth(0, "ab"), nth(1, "ab"))
        self.assertEqual(told, [told_way(25, (1, 1), (1, 2)), told_way(115, (1, 0), (1, 2))])

    def test_7_a_way_told_twice(self):
        told = all_told("a A 0 0 3\nb B 0 0 4\n", "3\n", "aba")
        self.assertEqual(len(told), 8)
        self.assertEqual(len({tuple(way[2:]) for way in told}), 8)

    def test_7_two_ways_with_one_text_are_two(self):
        lexicon = "a A 0 0 1\naa AA 0 0 2\n"
        told = run_on(lexicon, "50\n", many("aa"), nth(0, "aa"), nth(1, "aa"), text("aa", [2, 1]),
                      text("aa", [1, 0, 1, 0]))
        self.assertEqual(told, [[5], told_way(2, (2, 1)), told_way(2, (1, 0), (1, 0)), told_text("AA"), told_text("AA")])
        # A word that is written as its reading, and the sound by itself.
        told = run_on("a a 0 0 5\n", "5\n", many("a"), nth(0, "a"), nth(1, "a"), text("a", [1, 0]), text("a", [1, -1]))
        self.assertEqual(told, [[2], told_way(5, (1, 0)), told_way(5, BY_ITSELF), told_text("a"), told_text("a")])

    def test_8_a_cut_settled_only_where_a_word_could_be_cut(self):
        three = told_way(30, BY_ITSELF, BY_ITSELF, BY_ITSELF)
        for cuts in ([1], [0, 1], [1, 1]):
            self.assertEqual(all_told("abc A 0 0 1\n", "10\n", "abc", cuts), [three])
        # Where no word runs over the place, none keeps it that no piece ends there.
        for cuts in ([2], [0, 2], [2, 2]):
            self.assertEqual(run_on("a A 0 0 1\nb B 0 0 1\n", "10\n", many("abc", cuts), nth(0, "abc", cuts)), [[0], [-5]])
        self.assertEqual(all_told("abc A 0 0 1\n", "10\n", "abc", [2]), [told_way(1, (3, 0))])
        self.assertEqual(all_told("ab A 0 0 1\n", "10\n", "abc", [2, 2]), [])

    def test_9_a_choices_place_within_a_piece(self):
        lexicon = "a A 0 0 1\naa B 0 0 1\nb C 0 0 1\n"
        self.assertEqual(all_told(lexicon, "10\n", "aa", [], [1, 0]),
                         [told_way(2, (1, 0), (1, 0)), told_way(11, BY_ITSELF, (1, 0))])
        self.assertEqual(all_told(lexicon, "10\n", "aa", [], [1, -1]),
                         [told_way(11, (1, 0), BY_ITSELF), told_way(20, BY_ITSELF, BY_ITSELF)])
        # Word 1 runs over place 1, where word 0 is chosen: no way can have both.
        self.assertEqual(all_told(lexicon, "10\n", "aab", [], [0, 1, 1, 0]), [])
        self.assertEqual(all_told("aab A 0 0 1\n", "10\n", "aab", [], [2, -1]),
                         [told_way(30, BY_ITSELF, BY_ITSELF, BY_ITSELF)])

    def test_10_costs_held_at_65535(self):
        self.assertEqual(run_on("", "65535\n", nth(0, "ab"), cost("ab", [1, -1, 1, -1])),
                         [told_way(131070, BY_ITSELF, BY_ITSELF), [131070]])
        lexicon = "a A 1 1 65535\na B 2 2 65535\n"
        told = all_told(lexicon, "65535\n0 1 65535\n1 0 65535\n0 2 1\n", "a")
        self.assertEqual(told, [told_way(65535, BY_ITSELF), told_way(65536, (1, 1)), told_way(196605, (1, 0))])

    def test_11_a_word_of_the_first_length_alone(self):
        lexicon = "a A 0 0 1\nab B 0 0 2\nabc C 0 0 4\nabcd D 0 0 8\n"
        told = all_told(lexicon, "100\n", "abcd")
        self.assertEqual(told, [told_way(8, (4, 3)), told_way(104, (3, 2), BY_ITSELF),
                                told_way(202, (2, 1), BY_ITSELF, BY_ITSELF),
                                told_way(301, (1, 0), BY_ITSELF, BY_ITSELF, BY_ITSELF),
                                told_way(400, BY_ITSELF, BY_ITSELF, BY_ITSELF, BY_ITSELF)])
        self.assertEqual(run_on(lexicon, "100\n", cost("abcd", [4, 3]), cost("abcd", [3, 2, 1, -1])), [[8], [104]])


if __name__ == "__main__":
    unittest.main()
