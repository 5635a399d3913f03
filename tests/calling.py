"""How the tests make calls and take the answers apart."""

from readingways.readings import answers

BEGIN = [1]
WRITE = [4]

RUN_LEXICON = "a A 1 1 10\naa B 2 2 25\naa C 1 1 25\nb D 3 3 5\n"
RUN_JOINS = "40\n1 1 20\n2 3 7\n0 2 3\n"
RUN_WRITTEN = "40\n0 2 3\n1 1 20\n2 3 7\n"


def octets(text):
    if isinstance(text, str):
        text = text.encode("utf-8")
    return list(text)


def words(text):
    return [2, len(octets(text))] + octets(text)


def joins(text):
    return [3, len(octets(text))] + octets(text)


def written(text):
    """The answer of write that tells this text."""
    return [len(octets(text))] + octets(text)


def apart(told):
    """The single answers in what is given back."""
    found = []
    place = 0
    while place < len(told):
        count = told[place]
        assert place + 1 + count <= len(told), "an answer is cut short"
        found.append(told[place + 1:place + 1 + count])
        place += 1 + count
    return found


def run(*calls):
    """The answers, one list each, to these calls on one object."""
    return apart(answers([number for call in calls for number in call]))
