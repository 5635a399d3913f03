import unittest

from readingways.characters import characters_of, is_character, may_stand_in_word


def by_python(sequence):
    try:
        return [ord(character) for character in bytes(sequence).decode("utf-8", "strict")]
    except UnicodeDecodeError:
        return None


class CharactersTest(unittest.TestCase):

    def test_is_character(self):
        for number in (0, 0x41, 0xD7FF, 0xE000, 0xFFFF, 0x10FFFF):
            self.assertTrue(is_character(number))
        for number in (-1, 0xD800, 0xDBFF, 0xDC00, 0xDFFF, 0x110000, 2097151):
            self.assertFalse(is_character(number))

    def test_may_stand_in_word(self):
        for number in (0x21, 0x7E, 0x80, 0xA0, 0x10FFFF):
            self.assertTrue(may_stand_in_word(number))
        for number in (0, 0x0A, 0x1F, 0x20, 0x7F):
            self.assertFalse(may_stand_in_word(number))

    def assert_read(self, sequence):
        self.assertEqual(characters_of(sequence), by_python(sequence), sequence)

    def test_all_of_one_and_two_bytes(self):
        self.assert_read([])
        for first in range(256):
            self.assert_read([first])
            for second in range(256):
                self.assert_read([first, second])

    def test_edges_of_three_and_four_bytes(self):
        edges = (0x00, 0x41, 0x7F, 0x80, 0x8F, 0x90, 0x9F, 0xA0, 0xBF, 0xC0, 0xC2, 0xE0, 0xF0, 0xFF)
        for first in range(0xC0, 0x100):
            for second in edges:
                for third in edges:
                    self.assert_read([first, second, third])
                    for fourth in edges:
                        self.assert_read([first, second, third, fourth])

    def test_every_character(self):
        for number in range(0x110000):
            if is_character(number):
                self.assertEqual(characters_of(list(chr(number).encode("utf-8"))), [number])


if __name__ == "__main__":
    unittest.main()
