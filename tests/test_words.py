import unittest

from calling import RUN_LEXICON, octets, run, words
from readingways.faults import Fault
from readingways.lexicon import read_lexicon

GOOD = "a A 1 1 10\n"


def many_lines(count):
    return "".join(f"r{number} t 0 0 0\n" for number in range(count))


class WordsTest(unittest.TestCase):

    def answer(self, text):
        return run(words(text))[0]

    def assert_taken(self, text, count):
        self.assertEqual(self.answer(text), [count], text)

    def assert_fault(self, text, line, kind):
        self.assertEqual(self.answer(text), [-2, line, kind], text)

    def assert_wrong_line(self, line, kind):
        """The line is told wherever it stands."""
        if isinstance(line, str):
            line = line.encode("utf-8")
        good = GOOD.encode()
        self.assert_fault(line, 0, kind)
        self.assert_fault(good + line, 1, kind)
        if line.endswith(b"\n"):
            self.assert_fault(good + line + b"b B 0 0 0\n", 1, kind)
            self.assert_fault(line + line, 0, kind)

    def test_lexicon_of_the_run(self):
        self.assert_taken(RUN_LEXICON, 4)

    def test_empty_text(self):
        self.assert_taken("", 0)

    def test_as_many_words_as_may_be(self):
        self.assert_taken(many_lines(128), 128)

    def test_characters_of_all_lengths(self):
        self.assert_taken("\u0416\u3042\U00020000 \u6f22\U0010ffff\u00e9 1 2 3\n", 1)

    def test_least_and_greatest_characters(self):
        for character in "!~\u0080\u0085\u00a0\u07ff\u0800\u3000\ud7ff\ue000\ufeff\uffff\U00010000\U0010ffff":
            self.assert_taken(f"{character} {character} 0 0 0\n", 1)

    def test_limits_that_are_kept(self):
        self.assert_taken(f"{'a' * 32} b 0 0 0\n", 1)
        self.assert_taken(f"a {'b' * 32} 0 0 0\n", 1)
        self.assert_taken("a b 255 0 0\n", 1)
        self.assert_taken("a b 0 255 0\n", 1)
        self.assert_taken("a b 0 0 65535\n", 1)

    def test_limits_count_characters_not_bytes(self):
        self.assert_taken(f"{chr(0x10FFFF) * 32} {chr(0x3042) * 32} 0 0 0\n", 1)
        self.assert_wrong_line(f"{chr(0x10FFFF) * 33} b 0 0 0\n", 2)

    def test_bytes_that_are_no_utf_8(self):
        wrong = {
            "two bytes for one": b"\xc1\xa1",
            "three bytes for two": b"\xe0\x9f\xbf",
            "four bytes for three": b"\xf0\x8f\xbf\xbf",
            "D800H": b"\xed\xa0\x80",
            "DFFFH": b"\xed\xbf\xbf",
            "110000H": b"\xf4\x90\x80\x80",
            "above in the first byte": b"\xf5\x80\x80\x80",
            "five bytes": b"\xf8\x88\x80\x80\x80",
            "FFH": b"\xff",
            "a byte that only follows": b"\x80",
            "two bytes cut short": b"\xc3",
            "three bytes cut short": b"\xe3\x81",
            "four bytes cut short": b"\xf0\xa0\x80",
        }
        for name, sequence in wrong.items():
            with self.subTest(name):
                self.assert_wrong_line(b"a" + sequence + b" b 0 0 0\n", 1)
                self.assert_wrong_line(b"a b" + sequence + b" 0 0 0\n", 1)
                self.assert_wrong_line(b"a b 0 0 0" + sequence + b"\n", 1)
                self.assert_wrong_line(sequence, 1)

    def test_bytes_around_those_that_are_no_utf_8(self):
        for sequence in (b"\xc2\x80", b"\xe0\xa0\x80", b"\xf0\x90\x80\x80", b"\xed\x9f\xbf", b"\xee\x80\x80",
                         b"\xf4\x8f\xbf\xbf"):
            self.assert_taken(sequence + b" b 0 0 0\n", 1)

    def test_characters_that_may_not_stand_there(self):
        for number in list(range(0x0A)) + list(range(0x0B, 0x20)) + [0x7F]:
            with self.subTest(number):
                self.assert_wrong_line(f"a{chr(number)} b 0 0 0\n", 1)
                self.assert_wrong_line(f"a {chr(number)}b 0 0 0\n", 1)
                self.assert_wrong_line(f"a b 0 0 0{chr(number)}\n", 1)

    def test_empty_parts(self):
        for line in (" b 0 0 0\n", "a  0 0 0\n", "a b  0 0\n", "a b 0  0\n", "a b 0 0 \n", "    \n"):
            self.assert_wrong_line(line, 1)

    def test_more_and_fewer_parts(self):
        for line in ("\n", "a\n", "a b\n", "a b 0\n", "a b 0 0\n", "a b 0 0 0 0\n", "a b 0 0 0 \n", " a b 0 0 0\n",
                     "a  b 0 0 0\n"):
            self.assert_wrong_line(line, 1)

    def test_numbers_that_are_none(self):
        for number in ("+1", "-1", "-0", "00", "01", "0255", "1.0", "1e1", "0x1", "a", "1_0", "\uff11", "\u0661", "\u00b2",
                       "/", ":"):
            with self.subTest(number):
                self.assert_wrong_line(f"a b {number} 0 0\n", 1)
                self.assert_wrong_line(f"a b 0 {number} 0\n", 1)
                self.assert_wrong_line(f"a b 0 0 {number}\n", 1)

    def test_no_line_end_behind_the_last_line(self):
        self.assert_wrong_line("b B 0 0 0", 1)
        self.assert_wrong_line("b", 1)
        self.assert_wrong_line("b B 0 0 0\r", 1)

    def test_limits_that_are_not_kept(self):
        for line in (f"{'a' * 33} b 0 0 0\n", f"a {'b' * 33} 0 0 0\n", "a b 256 0 0\n", "a b 0 256 0\n",
                     "a b 0 0 65536\n", "a b 99999 0 0\n", "a b 0 0 100000\n", f"a b 0 0 {'9' * 5000}\n",
                     f"a b 1{'0' * 5000} 0 0\n"):
            self.assert_wrong_line(line, 2)

    def test_reading_and_text_that_a_line_before_has(self):
        self.assert_fault("a b 0 0 0\na b 1 2 3\n", 1, 3)
        self.assert_fault("a b 0 0 0\nc d 0 0 0\na b 0 0 0\na b 0 0 0\n", 2, 3)

    def test_reading_or_text_alone_may_stand_again(self):
        self.assert_taken("a b 0 0 0\na c 0 0 0\nc b 0 0 0\nb a 0 0 0\nab c 0 0 0\na bc 0 0 0\n", 6)

    def test_line_129(self):
        self.assert_fault(many_lines(129), 128, 4)
        self.assert_fault(many_lines(200), 128, 4)

    def test_the_least_kind_is_told(self):
        self.assert_fault(f"{'a' * 33} b 0 0 00\n", 0, 1)
        self.assert_fault("a b 256 0 0", 0, 1)
        self.assert_fault("a b 0 0 0\na b 0 0", 1, 1)
        self.assert_fault("a b 0 0 0\na b 0 0 0", 1, 1)
        self.assert_fault("a b 0 0 0\na b 256 0 0\n", 1, 2)
        self.assert_fault(many_lines(128) + "r0 t 0 0 0\n", 128, 3)
        self.assert_fault(many_lines(128) + "r0 t 0 0 65536\n", 128, 2)
        self.assert_fault(many_lines(128) + "new t 0 0 65536\n", 128, 2)
        self.assert_fault(many_lines(128) + "new t 0 0 0", 128, 1)
        self.assert_fault(many_lines(128) + "\n", 128, 1)

    def test_the_first_line_is_told(self):
        self.assert_fault("a b 256 0 0\nwrong\n", 0, 2)
        self.assert_fault("a b 0 0 0\na b 0 0 0\nc d 256 0 0\n", 1, 3)
        self.assert_fault("a b 0 0 0\na b 0 0 0\nc", 1, 3)
        self.assert_fault("wrong\na b 256 0 0\n", 0, 1)
        self.assert_fault(many_lines(129) + "wrong\n", 128, 4)

    def test_text_that_is_too_long(self):
        self.assert_fault("\n" * 65536, 0, 1)
        self.assertEqual(self.answer("\n" * 65537), [-1])
        self.assertEqual(self.answer("a b 0 0 0\n" * 6554), [-1])


class OrderOfWordsTest(unittest.TestCase):

    def texts_in_order(self, text):
        return ["".join(map(chr, word.text)) for word in read_lexicon(octets(text))]

    def test_the_run(self):
        lines = RUN_LEXICON.splitlines(keepends=True)
        self.assertEqual(self.texts_in_order("".join(lines)), ["A", "B", "C", "D"])
        self.assertEqual(self.texts_in_order("".join(reversed(lines))), ["A", "B", "C", "D"])

    def test_by_readings(self):
        self.assertEqual(self.texts_in_order("b 1 0 0 0\nab 2 0 0 5\na 3 0 0 9\naa 4 0 0 7\n"), ["3", "4", "2", "1"])

    def test_readings_by_characters(self):
        text = "\U00010000 1 0 0 0\n\uffff 2 0 0 0\nz 3 0 0 0\n\u00e9 4 0 0 0\nZ 5 0 0 0\n"
        self.assertEqual(self.texts_in_order(text), ["5", "3", "4", "2", "1"])

    def test_of_one_reading_by_costs(self):
        self.assertEqual(self.texts_in_order("a A 9 9 100\na B 0 0 20\na C 3 3 3\n"), ["C", "B", "A"])

    def test_of_one_cost_by_texts(self):
        self.assertEqual(self.texts_in_order("a BA 0 0 1\na C 1 1 1\na B 9 9 1\na A 5 5 1\n"), ["A", "B", "BA", "C"])

    def test_what_a_word_holds(self):
        word = read_lexicon(octets("a\u3042 \u6f22Z 1 255 65535\n"))[0]
        self.assertEqual((word.reading, word.text), ([0x61, 0x3042], [0x6F22, 0x5A]))
        self.assertEqual((word.left, word.right, word.cost), (1, 255, 65535))

    def test_fault(self):
        with self.assertRaises(Fault) as raised:
            read_lexicon(octets("a b 0 0 0\na b 1 1 1\n"))
        self.assertEqual((raised.exception.line, raised.exception.kind), (1, 3))


if __name__ == "__main__":
    unittest.main()
