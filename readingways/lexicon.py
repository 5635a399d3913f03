"""Words, their order, and the reading of a lexicon's text."""

from readingways.characters import characters_of, may_stand_in_word
from readingways.faults import Fault
from readingways.lines import MOST_COST, MOST_SORT, is_ended, lines_of, parts_of, values_of

MOST_WORDS = 128
MOST_CHARACTERS = 32


class Word:
    """A reading and a text, both rows of characters, with the left and the right sort and the cost."""

    def __init__(self, reading, text, left, right, cost):
        self.reading = reading
        self.text = text
        self.left = left
        self.right = right
        self.cost = cost


def order_of_word(word):
    """What words are put in order by: Python compares lists just as the order of rows asks."""
    return (word.reading, word.cost, word.text)


def is_row_of_word(part):
    for character in part:
        if not may_stand_in_word(character):
            return False
    return len(part) > 0


def word_of(line):
    """The word that the line tells, limits aside; None if it is no such line."""
    if not is_ended(line):
        return None
    characters = characters_of(line[:-1])
    if characters is None:
        return None
    parts = parts_of(characters)
    if len(parts) != 5 or not is_row_of_word(parts[0]) or not is_row_of_word(parts[1]):
        return None
    values = values_of(parts[2:])
    if values is None:
        return None
    return Word(parts[0], parts[1], values[0], values[1], values[2])


def keeps_limits(word):
    if len(word.reading) > MOST_CHARACTERS or len(word.text) > MOST_CHARACTERS:
        return False
    return word.left <= MOST_SORT and word.right <= MOST_SORT and word.cost <= MOST_COST


def stands_among(word, words):
    """Whether one of the words has the same reading and text."""
    for other in words:
        if other.reading == word.reading and other.text == word.text:
            return True
    return False


def kind_of_fault(word, words):
    """The least kind of what is wrong with a line's word behind these words; 0 if nothing is."""
    if word is None:
        return 1
    if not keeps_limits(word):
        return 2
    if stands_among(word, words):
        return 3
    if len(words) == MOST_WORDS:
        return 4
    return 0


def read_lexicon(text):
    """The words of a lexicon's text, in their order; raises its Fault."""
    words = []
    for place, line in enumerate(lines_of(text)):
        word = word_of(line)
        kind = kind_of_fault(word, words)
        if kind != 0:
            raise Fault(place, kind)
        words.append(word)
    return sorted(words, key=order_of_word)
