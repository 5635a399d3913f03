"""Texts of many kinds, right and wrong, told as a second reading of the document by patterns tells them."""

import random
import re
import unittest

from calling import WRITE, joins, run, words, written

NUMBER = "(0|[1-9][0-9]*)"
ROW = "([^\x00-\x20\x7f]+)"
WORD_LINE = re.compile(f"{ROW} {ROW} {NUMBER} {NUMBER} {NUMBER}\n", re.ASCII)
FIRST_LINE = re.compile(f"{NUMBER}\n", re.ASCII)
JOIN_LINE = re.compile(f"{NUMBER} {NUMBER} {NUMBER}\n", re.ASCII)

WORD_PARTS = ["a", "b", "A", "\u3042", "\U0010ffff", "a" * 32, "a" * 33, "\x7f", "", "\u0080"]
NUMBER_PARTS = ["0", "1", "2", "255", "256", "65535", "65536", "00", "-1", "", "a"]


def matched(pattern, line):
    try:
        return pattern.fullmatch(line.decode("utf-8"))
    except UnicodeDecodeError:
        return None


def word_fault(line, before):
    found = matched(WORD_LINE, line)
    if not found:
        return 1
    reading, text, left, right, cost = found.groups()
    if max(len(reading), len(text)) > 32 or max(int(left), int(right)) > 255 or int(cost) > 65535:
        return 2
    if (reading, text) in before:
        return 3
    if len(before) == 128:
        return 4
    before.append((reading, text))
    return 0


def words_answer(text):
    before = []
    for place, line in enumerate(re.findall(b"[^\n]*\n|[^\n]+", text)):
        kind = word_fault(line, before)
        if kind:
            return [-2, place, kind]
    return [len(before)]


def join_fault(line, before):
    found = matched(JOIN_LINE, line)
    if not found:
        return 1
    right, left, cost = map(int, found.groups())
    if right > 255 or left > 255 or cost > 65535:
        return 2
    if (right, left) in before:
        return 3
    before[right, left] = cost
    return 0


def joins_answers(text):
    """What joins answers, and what write does behind it, on a new object."""
    lines = re.findall(b"[^\n]*\n|[^\n]+", text)
    first = matched(FIRST_LINE, lines[0]) if lines else None
    if not first:
        return [[-2, 0, 1], written("65535\n")]
    if int(first.group(1)) > 65535:
        return [[-2, 0, 2], written("65535\n")]
    before = {}
    for place, line in enumerate(lines[1:], 1):
        kind = join_fault(line, before)
        if kind:
            return [[-2, place, kind], written("65535\n")]
    told = [f"{right} {left} {cost}\n" for (right, left), cost in sorted(before.items()) if cost]
    return [[len(told)], written(first.group(0) + "".join(told))]


def spoilt(chance, text):
    """The text with, most times, one byte changed, put in or left out."""
    place = chance.randrange(len(text) + 1)
    octet = bytes([chance.choice([chance.randrange(256), 0x0A, 0x20, 0x30, 0x61, 0x80])])
    return chance.choice([text, text[:place] + text[place + 1:], text[:place] + octet + text[place:],
                          text[:place] + octet + text[place + 1:]])


class PatternsTest(unittest.TestCase):

    def test_words(self):
        chance = random.Random(1)
        kinds = set()
        for step in range(4000):
            rare = chance.choice([3, 3, 5, len(WORD_PARTS)])
            lines = [" ".join([chance.choice(WORD_PARTS[:rare]), chance.choice(WORD_PARTS[:rare])]
                              + [chance.choice(NUMBER_PARTS[:max(rare, 4)]) for part in range(3)]) + "\n"
                     for line in range(chance.randrange(6))]
            if step % 20 == 0:
                lines = [f"x{line} y 0 0 0\n" for line in range(chance.randrange(126, 129))] + lines
            text = spoilt(chance, "".join(lines).encode())
            answer = words_answer(text)
            kinds.add(answer[2] if len(answer) > 1 else 0)
            self.assertEqual(run(words(text)), [answer], text)
        self.assertEqual(kinds, {0, 1, 2, 3, 4})

    def test_joins(self):
        chance = random.Random(2)
        kinds = set()
        for step in range(4000):
            rare = chance.choice([3, 4, len(NUMBER_PARTS)])
            lines = [" ".join([chance.choice(NUMBER_PARTS[:rare]) for part in range(3)]) + "\n"
                     for line in range(chance.randrange(5))]
            text = spoilt(chance, (chance.choice(NUMBER_PARTS[:rare]) + "\n" + "".join(lines)).encode())
            told = joins_answers(text)
            kinds.add(told[0][2] if len(told[0]) > 1 else 0)
            self.assertEqual(run(joins(text), WRITE), told, text)
        self.assertEqual(kinds, {0, 1, 2, 3})


if __name__ == "__main__":
    unittest.main()
