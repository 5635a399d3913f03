"""The interface: a list of calls on one new object is answered by a list of numbers."""

from readingways.book import Book, begin_anew, take_joins, take_words, write_joins
from readingways.tape import Tape

BEGIN = 1
WORDS = 2
JOINS = 3
WRITE = 4


def answer_of_call(book, tape):
    """Takes one call from the tape; the numbers that it answers."""
    call = tape.take_number()
    if call == BEGIN:
        return begin_anew(book)
    if call == WORDS:
        return take_words(book, tape.take_row())
    if call == JOINS:
        return take_joins(book, tape.take_row())
    if call == WRITE:
        return write_joins(book)
    raise NotImplementedError("there is no such call")


def answers(calls):
    """For each call, in order, how many numbers are answered, and these."""
    tape = Tape(calls)
    book = Book()
    told = []
    while tape.has_more():
        answer = answer_of_call(book, tape)
        told.append(len(answer))
        told.extend(answer)
    return told
