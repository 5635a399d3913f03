"""The object, and the calls on it: each gives back the numbers that it answers."""

from readingways.faults import Fault
from readingways.joins import new_joins, read_joins, text_of_joins
from readingways.lexicon import read_lexicon

MOST_BYTES = 65536


class Book:
    """An object: the words of its lexicon, in their order, and its joins."""

    def __init__(self):
        self.words = []
        self.joins = new_joins()


def begin_anew(book):
    book.words = []
    book.joins = new_joins()
    return [0]


def take_words(book, text):
    if len(text) > MOST_BYTES:
        return [-1]
    try:
        words = read_lexicon(text)
    except Fault as fault:
        return [-2, fault.line, fault.kind]
    book.words = words
    return [len(words)]


def take_joins(book, text):
    if len(text) > MOST_BYTES:
        return [-1]
    try:
        joins = read_joins(text)
    except Fault as fault:
        return [-2, fault.line, fault.kind]
    book.joins = joins
    return [len(joins.costs)]


def write_joins(book):
    text = text_of_joins(book.joins)
    return [len(text)] + text
