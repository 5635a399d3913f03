"""What begin, words, joins and refused calls do to what many, nth, cost and text answer; these calls in one list."""

import unittest

from calling import BEGIN, RUN_JOINS, RUN_LEXICON, RUN_WRITTEN, WRITE, cost, joins, many, nth, run, text, told_text
from calling import told_way, words, written
from readingways.readings import answers

# What shows the whole object of the run: its words and its joins.
SHOWN = [many("aab"), nth(0, "aab"), nth(1, "aab"), nth(6, "aab"), cost("aab", [2, 1, 1, 3]), text("aab", [2, 1, 1, 3]),
         cost("aa", [1, 0, 1, 0]), WRITE]
OF_THE_RUN = [[12], [2, 30, 2, 2, 1, 3], [2, 40, 2, 1, 1, 3], [2, 68, 2, 1, 1, -1], [40], told_text("BD"), [40],
              written(RUN_WRITTEN)]
OF_A_NEW_OBJECT = [[1], [3, 196605, 1, -1, 1, -1, 1, -1], [-5], [-5], [-5], [-5], [-5], written("65535\n")]
OF_THE_JOINS_ALONE = [[1], [3, 120, 1, -1, 1, -1, 1, -1], [-5], [-5], [-5], [-5], [-5], written(RUN_WRITTEN)]
OF_THE_WORDS_ALONE = [[12], [3, 25, 1, 0, 1, 0, 1, 3], [2, 30, 2, 1, 1, 3], [2, 65560, 2, 1, 1, -1], [30],
                      told_text("BD"), [20], written("65535\n")]


class KeptTest(unittest.TestCase):

    def test_new_object(self):
        self.assertEqual(run(*SHOWN), OF_A_NEW_OBJECT)

    def test_the_run(self):
        for taken in ([words(RUN_LEXICON), joins(RUN_JOINS)], [joins(RUN_JOINS), words(RUN_LEXICON)]):
            self.assertEqual(run(*taken, *SHOWN)[2:], OF_THE_RUN)

    def test_begin_takes_words_and_joins_back(self):
        told = run(words(RUN_LEXICON), joins(RUN_JOINS), *SHOWN, BEGIN, *SHOWN)
        self.assertEqual(told[2:], OF_THE_RUN + [[0]] + OF_A_NEW_OBJECT)

    def test_words_keeps_the_joins(self):
        told = run(joins(RUN_JOINS), words(RUN_LEXICON), *SHOWN, words(""), *SHOWN)
        self.assertEqual(told[2:], OF_THE_RUN + [[0]] + OF_THE_JOINS_ALONE)

    def test_joins_keeps_the_words(self):
        told = run(words(RUN_LEXICON), joins(RUN_JOINS), joins("65535\n"), *SHOWN, joins(RUN_JOINS), *SHOWN)
        self.assertEqual(told[2:], [[0]] + OF_THE_WORDS_ALONE + [[3]] + OF_THE_RUN)

    def test_words_takes_the_words_before_back(self):
        told = run(words(RUN_LEXICON), joins(RUN_JOINS), words("b X 0 0 1\n"), many("aab"), nth(0, "aab"),
                   text("aab", [1, -1, 1, -1, 1, 0]), cost("aab", [2, 1, 1, 3]), words(RUN_LEXICON), *SHOWN)
        self.assertEqual(told[2:], [[1], [2], told_way(81, (1, -1), (1, -1), (1, 0)), told_text("aaX"), [-5], [4]]
                         + OF_THE_RUN)

    def test_joins_takes_the_joins_before_back(self):
        told = run(words(RUN_LEXICON), joins(RUN_JOINS), joins("8\n3 0 1\n"), nth(0, "aab"), cost("aab", [2, 1, 1, 3]),
                   cost("aab", [1, -1] * 3))
        self.assertEqual(told[2:], [[1], told_way(22, (1, -1), (1, -1), (1, 3)), [31], [24]])


class RefusedTest(unittest.TestCase):

    REFUSED = [
        (words("x X 0 0 0\nwrong\n"), [-2, 1, 1]),
        (words("x X 0 0 0\ny Y 256 0 0\n"), [-2, 1, 2]),
        (words("x X 0 0 0\nx X 0 0 0\n"), [-2, 1, 3]),
        (words("".join(f"{number} x 0 0 0\n" for number in range(129))), [-2, 128, 4]),
        (words("x" * 65537), [-1]),
        (joins(""), [-2, 0, 1]),
        (joins("7\n1 1 9\n1 256 0\n"), [-2, 2, 2]),
        (joins("7\n1 1 9\n1 1 9\n"), [-2, 2, 3]),
        (joins("1" * 65537), [-1]),
        (many(""), [-1]),
        (many("a" * 25, [3], [9]), [-1]),
        (many([0xD800]), [-3]),
        (many("aab", [0, 0, 0]), [-3]),
        (many("aab", [], [0, 4]), [-3]),
        (many("a" * 24), [-6]),
        (nth(0, ""), [-1]),
        (nth(0, "aab", [3]), [-3]),
        (nth(0, "a" * 24, [1] * 23), [-6]),
        (nth(12, "aab"), [-5]),
        (nth(0, "aab", [2], [0, 0]), [-5]),
        (cost("", []), [-1]),
        (cost("aab", [1]), [-3]),
        (cost("aab", []), [-5]),
        (text("a" * 25, [1]), [-1]),
        (text("aab", [-1, 0]), [-3]),
        (text("aab", [2, 1, 1, 4]), [-5]),
    ]

    def test_a_refused_call_changes_nothing(self):
        for call, answer in self.REFUSED:
            told = run(words(RUN_LEXICON), joins(RUN_JOINS), call, *SHOWN, call)
            self.assertEqual(told[2:], [answer] + OF_THE_RUN + [answer])

    def test_refused_calls_one_behind_another(self):
        for kind in (0, 1):
            refused = [call for call, answer in self.REFUSED if len(call) < 1000][::-1 if kind else 1]
            told = run(words(RUN_LEXICON), joins(RUN_JOINS), *refused, *SHOWN)
            self.assertEqual(told[2 + len(refused):], OF_THE_RUN)

    def test_a_call_that_is_answered_changes_nothing_either(self):
        told = run(words(RUN_LEXICON), joins(RUN_JOINS), *SHOWN, many("aab", [1], [0, 0]), nth(0, "aab", [2], [2, -1]),
                   text("aab", [1, -1] * 3), *SHOWN)
        self.assertEqual(told[2:], OF_THE_RUN + [[4], [2, 65, 2, 2, 1, -1], told_text("aab")] + OF_THE_RUN)


class InterfaceTest(unittest.TestCase):

    def test_numbers_one_behind_another(self):
        calls = ([2, 10] + list(b"a A 0 0 5\n") + [3, 2] + list(b"7\n")
                 + [5, 2, 97, 98, 1, 0, 2, 0, -1] + [6, 1, 1, 97, 0, 0] + [7, 1, 97, 2, 1, 0] + [8, 2, 97, 98, 4, 1, 0, 1, -1])
        self.assertEqual(answers(calls), [1, 1, 1, 0] + [1, 1] + [4, 1, 7, 1, -1] + [1, 5] + [3, 2, 65, 98])

    def test_empty_rows(self):
        self.assertEqual(answers([5, 0, 0, 0]), [1, -1])
        self.assertEqual(answers([6, 0, 0, 0, 0]), [1, -1])
        self.assertEqual(answers([7, 0, 0]), [1, -1])
        self.assertEqual(answers([8, 0, 0]), [1, -1])
        self.assertEqual(answers([5, 1, 97, 0, 0]), [1, 1])
        self.assertEqual(answers([6, 0, 1, 97, 0, 0]), [4, 1, 65535, 1, -1])
        self.assertEqual(answers([7, 1, 97, 0]), [1, -5])
        self.assertEqual(answers([8, 1, 97, 0]), [1, -5])

    def test_rows_that_look_like_calls(self):
        calls = [5, 3, 1, 4, 5, 2, 1, 1, 2, 2, -1] + [6, 0, 2, 6, 8, 0, 0] + [8, 2, 7, 7, 4, 1, -1, 1, -1] + [7, 1, 4, 1, 4, 1]
        self.assertEqual(answers(calls), [1, 1] + [6, 2, 131070, 1, -1, 1, -1] + [3, 2, 7, 7] + [1, -3] + [1, 0])

    def test_longest_rows(self):
        told = run(many([0x61] * 40, [2097151] * 40, [-2097152] * 60), nth(2097151, [0] * 40, [0] * 40, [0] * 60),
                   cost([2097151] * 40, [2097151] * 80), text([0] * 40, [-2097152] * 80), many("a", [0] * 40),
                   many("a", [], [0] * 60), cost("a", [2097151] * 80), text("a", [1, -1] * 40), many("a"))
        self.assertEqual(told, [[-1]] * 4 + [[-3], [-3], [-5], [-5], [1]])

    def test_calls_of_all_kinds_in_one_list(self):
        told = run(many("ab"), words("ab X 1 2 3\n"), many("ab"), joins("4\n0 1 5\n"), nth(0, "ab"), nth(1, "ab"), WRITE,
                   text("ab", [2, 0]), BEGIN, cost("ab", [2, 0]), words("b Y 0 0 1\na Z 0 0 1\n"), text("ab", [1, 0, 1, 1]),
                   cost("ab", [1, 0, 1, -1]), joins("0\n"), cost("ab", [1, 0, 1, -1]), many("ab", [2]), WRITE)
        self.assertEqual(told, [[1], [1], [2], [1], told_way(8, (2, 0)), told_way(8, (1, -1), (1, -1)),
                                written("4\n0 1 5\n"), told_text("X"), [0], [-5], [2], told_text("ZY"), [65536], [0], [1],
                                [0], written("0\n")])

    def test_a_hundred_calls(self):
        calls = [words("a A 0 0 1\n")] + [nth(number, "a" * 10) for number in range(925, 1024)]
        told = run(*calls)
        self.assertEqual(len(told), 100)
        self.assertEqual(told[-1], told_way(655350, *[(1, -1)] * 10))
        self.assertEqual(len({tuple(answer) for answer in told[1:]}), 99)

    def test_list_handed_in_is_not_changed(self):
        calls = [number for call in [words(RUN_LEXICON), joins(RUN_JOINS)] + SHOWN for number in call]
        calls += many("aab", [1, 2], [0, 0]) + nth(0, "aab", [2], [0, 1, 2, -1]) + text("aab", [1, -1] * 3)
        before = list(calls)
        answers(calls)
        self.assertEqual(calls, before)

    def test_list_that_no_one_may_change(self):
        class Fixed(list):
            """A list that tells whoever changes it, for a while too."""

            def changed(self, *values):
                raise AssertionError("the list handed in is changed")

            __setitem__ = __delitem__ = __iadd__ = __imul__ = changed
            append = extend = insert = pop = remove = reverse = sort = clear = changed

        calls = [number for call in [words(RUN_LEXICON), joins(RUN_JOINS)] + SHOWN for number in call]
        self.assertEqual(answers(Fixed(calls)), answers(calls))

    def test_runs_know_nothing_of_each_other(self):
        calls = [number for call in [words(RUN_LEXICON), joins(RUN_JOINS)] + SHOWN for number in call]
        first = answers(calls)
        self.assertEqual(run(*SHOWN), OF_A_NEW_OBJECT)
        self.assertEqual(answers(calls), first)

    def test_what_is_given_back_may_be_changed(self):
        calls = [number for call in [words(RUN_LEXICON), text("aab", [2, 1, 1, 3])] for number in call]
        told = answers(calls)
        told[-1] = 9
        self.assertEqual(answers(calls), [1, 4, 3, 2, 0x42, 0x44])

    def test_only_whole_numbers_are_given_back(self):
        told = answers([number for call in [words(RUN_LEXICON), joins(RUN_JOINS)] + SHOWN for number in call]
                       + [number for call, answer in RefusedTest.REFUSED for number in call])
        self.assertEqual({type(number) for number in told}, {int})
        self.assertIs(type(told), list)


if __name__ == "__main__":
    unittest.main()
