"""How the tests make calls and take the answers apart."""

from readingways.readings import answers

BEGIN = [1]
WRITE = [4]

RUN_LEXICON = "a A 1 1 10\naa B 2 2 25\naa C 1 1 25\nb D 3 3 5\n"
RUN_JOINS = "40\n1 1 20\n2 3 7\n0 2 3\n"
RUN_WRITTEN = "40\n0 2 3\n1 1 20\n2 3 7\n"


def octets(text):
    if isinstance(text, str):
        text = text.encode("utf-8")
    return list(text)


def words(text):
    return [2, len(octets(text))] + octets(text)


def joins(text):
    return [3, len(octets(text))] + octets(text)


def sounds(reading):
    if isinstance(reading, str):
        return [ord(sound) for sound in reading]
    return list(reading)


def with_counts(*rows):
    """The rows one behind another, each behind how many numbers it has."""
    return [number for row in rows for number in [len(row)] + list(row)]


def many(reading, cuts=(), choices=()):
    return [5] + with_counts(sounds(reading), cuts, choices)


def nth(number, reading, cuts=(), choices=()):
    return [6, number] + with_counts(sounds(reading), cuts, choices)


def cost(reading, pieces):
    return [7] + with_counts(sounds(reading), pieces)


def text(reading, pieces):
    return [8] + with_counts(sounds(reading), pieces)


def told_way(costs, *pieces):
    """The answer of nth that tells a way of these pieces."""
    return [len(pieces), costs] + [number for piece in pieces for number in piece]


def told_text(characters):
    """The answer of text that tells these characters."""
    return [len(characters)] + sounds(characters)


def written(text):
    """The answer of write that tells this text."""
    return [len(octets(text))] + octets(text)


def apart(told):
    """The single answers in what is given back."""
    found = []
    place = 0
    while place < len(told):
        count = told[place]
        assert place + 1 + count <= len(told), "an answer is cut short"
        found.append(told[place + 1:place + 1 + count])
        place += 1 + count
    return found


def run(*calls):
    """The answers, one list each, to these calls on one object."""
    return apart(answers([number for call in calls for number in call]))


def run_on(lexicon, join_text, *calls):
    """The answers to these calls on an object that has taken this lexicon and these joins."""
    told = []
    # A list has at most 100 calls, two of which are spent on the lexicon and the joins.
    for first in range(0, len(calls), 98):
        found = run(words(lexicon), joins(join_text), *calls[first:first + 98])
        assert found[0][0] >= 0 and found[1][0] >= 0, "the lexicon or the joins are refused"
        told += found[2:]
    return told


def all_told(lexicon, join_text, reading, cuts=(), choices=()):
    """What nth tells from 0 on, as many ways as many counts, with no further one behind them."""
    count = run_on(lexicon, join_text, many(reading, cuts, choices))[0][0]
    told = run_on(lexicon, join_text, *[nth(number, reading, cuts, choices) for number in range(count + 1)])
    assert told[-1] == [-5] and [-5] not in told[:-1], "many counts other than nth tells"
    return told[:-1]
