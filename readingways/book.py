"""The object, and the calls on it: each gives back the numbers that it answers."""

from readingways.faults import Fault
from readingways.joins import new_joins, read_joins, text_of_joins
from readingways.lexicon import read_lexicon
from readingways.refusals import MOST_BYTES, NO_SUCH_WAY, TOO_LONG, WRONG_TEXT, refusal_of_pieces, refusal_of_settled
from readingways.rows import pairs_of, row_of_pairs
from readingways.settled import kept_of, settle
from readingways.ways import cost_of_way, count_ways, table_of, text_of_way, ways_in_order


class Book:
    """An object: the words of its lexicon, in their order, and its joins."""

    def __init__(self):
        self.words = []
        self.joins = new_joins()


def begin_anew(book):
    book.words = []
    book.joins = new_joins()
    return [0]


def take_words(book, text):
    if len(text) > MOST_BYTES:
        return [TOO_LONG]
    try:
        words = read_lexicon(text)
    except Fault as fault:
        return [WRONG_TEXT, fault.line, fault.kind]
    book.words = words
    return [len(words)]


def take_joins(book, text):
    if len(text) > MOST_BYTES:
        return [TOO_LONG]
    try:
        joins = read_joins(text)
    except Fault as fault:
        return [WRONG_TEXT, fault.line, fault.kind]
    book.joins = joins
    return [len(joins.costs)]


def write_joins(book):
    text = text_of_joins(book.joins)
    return [len(text)] + text


def kept_table(book, reading, cuts, choices):
    """The table of the pieces that make up the ways that keep what is settled."""
    return kept_of(table_of(book.words, reading), settle(len(reading), cuts, choices))


def tell_many(book, reading, cuts, choices):
    refusal = refusal_of_settled(reading, cuts, choices, book.words)
    if refusal != 0:
        return [refusal]
    return [count_ways(kept_table(book, reading, cuts, choices))]


def tell_nth(book, number, reading, cuts, choices):
    refusal = refusal_of_settled(reading, cuts, choices, book.words)
    if refusal != 0:
        return [refusal]
    ways = ways_in_order(kept_table(book, reading, cuts, choices), book.words, book.joins)
    if number >= len(ways):
        return [NO_SUCH_WAY]
    way = ways[number]
    return [len(way), cost_of_way(way, book.words, book.joins)] + row_of_pairs(way)


def tell_cost(book, reading, pieces):
    refusal = refusal_of_pieces(reading, pieces, book.words)
    if refusal != 0:
        return [refusal]
    return [cost_of_way(pairs_of(pieces), book.words, book.joins)]


def tell_text(book, reading, pieces):
    refusal = refusal_of_pieces(reading, pieces, book.words)
    if refusal != 0:
        return [refusal]
    text = text_of_way(pairs_of(pieces), book.words, reading)
    return [len(text)] + text
