import unittest

from calling import RUN_JOINS, RUN_WRITTEN, WRITE, joins, run, written


class JoinsTest(unittest.TestCase):

    def answer(self, text):
        return run(joins(text))[0]

    def assert_taken(self, text, count):
        self.assertEqual(self.answer(text), [count], text)

    def assert_fault(self, text, line, kind):
        self.assertEqual(self.answer(text), [-2, line, kind], text)

    def assert_wrong_join(self, line, kind):
        """The line is told wherever it stands behind the first one."""
        self.assert_fault("0\n" + line, 1, kind)
        self.assert_fault("0\n7 7 7\n" + line, 2, kind)
        if line.endswith("\n"):
            self.assert_fault("0\n7 7 7\n" + line + "8 8 8\n", 2, kind)

    def test_joins_of_the_run(self):
        self.assert_taken(RUN_JOINS, 3)

    def test_no_line_at_all(self):
        self.assert_fault("", 0, 1)

    def test_first_line_alone(self):
        for first in ("0", "1", "40", "65535"):
            self.assertEqual(run(joins(first + "\n"), WRITE), [[0], written(first + "\n")])

    def test_first_line_that_is_no_such_line(self):
        for first in ("\n", " \n", "40", "40 \n", " 40\n", "40 1\n", "1 1 20\n", "040\n", "00\n", "+4\n", "-4\n", "a\n",
                      "4\r\n", "\t4\n", "\uff14\n", "\n40\n", "4\x00\n"):
            with self.subTest(first):
                self.assert_fault(first, 0, 1)
        self.assert_fault(b"\xff\n", 0, 1)
        self.assert_fault(b"4\x80\n", 0, 1)

    def test_first_line_above_its_limit(self):
        for first in ("65536\n", "99999\n", "100000\n", "9" * 5000 + "\n"):
            self.assert_fault(first, 0, 2)
        self.assert_fault("65536", 0, 1)

    def test_limits_that_are_kept(self):
        self.assert_taken("0\n255 255 65535\n255 0 1\n0 255 1\n0 0 1\n", 4)

    def test_lines_that_are_no_such_line(self):
        for line in ("\n", " \n", "1\n", "1 2\n", "1 2 3 4\n", "1 2 3 \n", " 1 2 3\n", "1  2 3\n", "1  3\n", "1 2 \n",
                     "1 2 3", "1", "01 2 3\n", "1 02 3\n", "1 2 03\n", "1 2 00\n", "+1 2 3\n", "1 -2 3\n", "1 2 -3\n",
                     "a 2 3\n", "1 a 3\n", "1 2 a\n", "1\t2\t3\n", "1 2 3\r\n", "1 2 3\x00\n", "/ : 3\n", "1 2 \uff13\n"):
            with self.subTest(line):
                self.assert_wrong_join(line, 1)
        self.assert_fault(b"0\n1 2 3\xff\n", 1, 1)

    def test_lines_above_their_limits(self):
        for line in ("256 0 0\n", "0 256 0\n", "0 0 65536\n", "99999 0 0\n", "0 100000 0\n", "0 0 " + "9" * 5000 + "\n"):
            self.assert_wrong_join(line, 2)

    def test_sorts_that_a_line_before_has(self):
        self.assert_fault("0\n1 2 3\n1 2 4\n", 2, 3)
        self.assert_fault("0\n1 2 3\n5 5 5\n1 2 3\n1 2 3\n", 3, 3)

    def test_sorts_again_of_cost_0(self):
        self.assert_fault("0\n1 2 0\n1 2 0\n", 2, 3)
        self.assert_fault("0\n1 2 0\n1 2 9\n", 2, 3)
        self.assert_fault("0\n1 2 9\n1 2 0\n", 2, 3)

    def test_sorts_changed_over_are_others(self):
        self.assert_taken("0\n1 2 3\n2 1 3\n1 1 3\n2 2 3\n", 4)

    def test_joins_of_cost_0_are_neither_counted_nor_written(self):
        self.assertEqual(run(joins("5\n1 2 0\n3 4 6\n4 3 0\n"), WRITE), [[1], written("5\n3 4 6\n")])
        self.assertEqual(run(joins("5\n1 2 0\n"), WRITE), [[0], written("5\n")])

    def test_the_least_kind_is_told(self):
        self.assert_fault("0\n256 0 00\n", 1, 1)
        self.assert_fault("0\n256 0 0", 1, 1)
        self.assert_fault("0\n1 2 3\n1 2 3", 2, 1)
        self.assert_fault("0\n1 2 3\n1 2 65536\n", 2, 2)

    def test_the_first_line_is_told(self):
        self.assert_fault("65536\nwrong\n", 0, 2)
        self.assert_fault("0\n256 0 0\nwrong\n", 1, 2)
        self.assert_fault("0\n1 1 1\n1 1 1\n256 0 0\nwrong", 2, 3)
        self.assert_fault("wrong\n256 0 0\n", 0, 1)

    def test_more_joins_than_words_may_be(self):
        lines = [f"{number} {255 - number} 1\n" for number in range(256)]
        self.assert_taken("0\n" + "".join(lines), 256)

    def test_text_that_is_too_long(self):
        self.assert_fault("\n" * 65536, 0, 1)
        self.assertEqual(self.answer("\n" * 65537), [-1])
        self.assertEqual(self.answer("0\n" * 32769), [-1])


class WriteTest(unittest.TestCase):

    def test_the_run(self):
        self.assertEqual(run(joins(RUN_JOINS), WRITE)[1], [22] + list(RUN_WRITTEN.encode()))

    def test_new_object(self):
        self.assertEqual(run(WRITE), [[6, 0x36, 0x35, 0x35, 0x33, 0x35, 0x0A]])

    def test_order_by_right_then_left_as_numbers(self):
        lines = ["0 9 1\n", "0 10 2\n", "2 0 3\n", "2 255 4\n", "10 0 5\n", "10 2 6\n", "255 1 7\n"]
        text = "1\n" + "".join(lines)
        for order in (lines, lines[::-1], lines[3:] + lines[:3], lines[::2] + lines[1::2]):
            self.assertEqual(run(joins("1\n" + "".join(order)), WRITE), [[7], written(text)])

    def test_what_is_written_is_read_as_the_same(self):
        lines = [f"{number * 37 % 256} {number * 101 % 256} {number * 257}\n" for number in range(255, -1, -1)]
        first = run(joins("65535\n" + "".join(lines)), WRITE)
        again = run(joins(bytes(first[1][1:])), WRITE)
        self.assertEqual((first[0], again[0]), ([255], [255]))
        # As bytes: unittest would seek the difference of two such long lists for many minutes.
        self.assertEqual(bytes(again[1][1:]), bytes(first[1][1:]))
        self.assertEqual(again[1][0], len(first[1]) - 1)

    def test_joins_takes_back_what_was_before(self):
        told = run(joins("1\n1 1 1\n2 2 2\n"), joins("7\n2 2 5\n"), WRITE)
        self.assertEqual(told, [[2], [1], written("7\n2 2 5\n")])

    def test_write_changes_nothing(self):
        told = run(joins(RUN_JOINS), WRITE, WRITE)
        self.assertEqual(told[1], told[2])


if __name__ == "__main__":
    unittest.main()
