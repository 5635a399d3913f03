"""What calls refuse, in the order told; 0 stands for nothing to refuse."""

from readingways.characters import is_character
from readingways.rows import is_of_pairs, pairs_of
from readingways.ways import BY_ITSELF, count_ways, is_way, table_of

MOST_BYTES = 65536
MOST_SOUNDS = 24
MOST_WAYS = 1024

TOO_LONG = -1
WRONG_TEXT = -2
WRONG_FORM = -3
NO_SUCH_WAY = -5
TOO_MANY_WAYS = -6


def are_characters(reading):
    for sound in reading:
        if not is_character(sound):
            return False
    return True


def are_cuts(cuts, count):
    """Whether these can be the cuts of a reading of so many sounds."""
    for cut in cuts:
        if cut > 2:
            return False
    return len(cuts) < count


def are_choices(choices, count, word_count):
    """Whether these can be the choices of a reading of so many sounds, where there are so many words."""
    if not is_of_pairs(choices):
        return False
    before = -1
    for choice in pairs_of(choices):
        if not before < choice[0] < count:
            return False
        if choice[1] < BY_ITSELF or choice[1] >= word_count:
            return False
        before = choice[0]
    return True


def refusal_of_reading(reading):
    if len(reading) == 0 or len(reading) > MOST_SOUNDS:
        return TOO_LONG
    if not are_characters(reading):
        return WRONG_FORM
    return 0


def refusal_of_settled(reading, cuts, choices, words):
    refusal = refusal_of_reading(reading)
    if refusal != 0:
        return refusal
    if not are_cuts(cuts, len(reading)) or not are_choices(choices, len(reading), len(words)):
        return WRONG_FORM
    if count_ways(table_of(words, reading)) > MOST_WAYS:
        return TOO_MANY_WAYS
    return 0


def refusal_of_pieces(reading, pieces, words):
    refusal = refusal_of_reading(reading)
    if refusal != 0:
        return refusal
    if not is_of_pairs(pieces):
        return WRONG_FORM
    if not is_way(pairs_of(pieces), table_of(words, reading)):
        return NO_SUCH_WAY
    return 0
