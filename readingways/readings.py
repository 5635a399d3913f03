"""The interface: a list of calls on one new object is answered by a list of numbers."""

from readingways.book import Book, begin_anew, take_joins, take_words, write_joins
from readingways.book import tell_cost, tell_many, tell_nth, tell_text
from readingways.tape import Tape

BEGIN = 1
WORDS = 2
JOINS = 3
WRITE = 4
MANY = 5
NTH = 6
COST = 7
TEXT = 8


def answer_of_many(book, tape):
    reading = tape.take_row()
    cuts = tape.take_row()
    choices = tape.take_row()
    return tell_many(book, reading, cuts, choices)


def answer_of_nth(book, tape):
    number = tape.take_number()
    reading = tape.take_row()
    cuts = tape.take_row()
    choices = tape.take_row()
    return tell_nth(book, number, reading, cuts, choices)


def answer_of_cost(book, tape):
    reading = tape.take_row()
    pieces = tape.take_row()
    return tell_cost(book, reading, pieces)


def answer_of_text(book, tape):
    reading = tape.take_row()
    pieces = tape.take_row()
    return tell_text(book, reading, pieces)


def answer_of_call(book, tape):
    """Takes one call from the tape; the numbers that it answers."""
    call = tape.take_number()
    if call == BEGIN:
        return begin_anew(book)
    if call == WORDS:
        return take_words(book, tape.take_row())
    if call == JOINS:
        return take_joins(book, tape.take_row())
    if call == WRITE:
        return write_joins(book)
    if call == MANY:
        return answer_of_many(book, tape)
    if call == NTH:
        return answer_of_nth(book, tape)
    if call == COST:
        return answer_of_cost(book, tape)
    if call == TEXT:
        return answer_of_text(book, tape)
    raise ValueError("there is no such call")


def answers(calls):
    """For each call, in order, how many numbers are answered, and these."""
    tape = Tape(calls)
    book = Book()
    told = []
    while tape.has_more():
        answer = answer_of_call(book, tape)
        told.append(len(answer))
        told.extend(answer)
    return told
