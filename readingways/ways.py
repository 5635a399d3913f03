"""Pieces and ways to write a reading.

A piece is (how many sounds, the word's number); a way is a list of pieces. A table has, for each place of a reading,
the pieces that may begin there.
"""

from readingways.joins import cost_of_join

# The number in the place of a word's where a sound stands by itself.
BY_ITSELF = -1
# The sort before the first and behind the last piece, and on both sides of a sound by itself.
NO_SORT = 0


def stands_at(word, reading, place):
    return reading[place:place + len(word.reading)] == word.reading


def order_of_piece(piece):
    """What words that begin at one place are put in order by: the longer one first, then the lesser number."""
    return (-piece[0], piece[1])


def pieces_at(words, reading, place):
    """All pieces that begin at this place, in the order that tells ways of one cost apart."""
    pieces = [(len(word.reading), number) for number, word in enumerate(words) if stands_at(word, reading, place)]
    # No word is shorter than the sound by itself, and those as short go before it: so it is always the last.
    return sorted(pieces, key=order_of_piece) + [(1, BY_ITSELF)]


def table_of(words, reading):
    """The table of all pieces of the reading."""
    return [pieces_at(words, reading, place) for place in range(len(reading))]


def count_ways(table):
    """How many ways the table's pieces make up, without making them: there may be far too many."""
    counts = [0] * len(table) + [1]
    for place in range(len(table) - 1, -1, -1):
        counts[place] = sum([counts[place + piece[0]] for piece in table[place]])
    return counts[0]


def ways_that_begin(pieces, place, ways):
    """The ways to write what is behind the place; those behind each further place are there already."""
    found = []
    for piece in pieces:
        for rest in ways[place + piece[0]]:
            found.append([piece] + rest)
    return found


def ways_of(table):
    """All ways that the table's pieces make up, by the first piece in which they differ, whatever they cost."""
    ways = [[] for pieces in table] + [[[]]]
    for place in range(len(table) - 1, -1, -1):
        ways[place] = ways_that_begin(table[place], place, ways)
    return ways[0]


def ways_in_order(table, words, joins):
    """All ways that the table's pieces make up, in their order."""
    # Sorting leaves ways of one cost as they stood, and they stood by their pieces.
    return sorted(ways_of(table), key=lambda way: cost_of_way(way, words, joins))


def is_way(pieces, table):
    """Whether the pieces are the table's and make up the whole reading."""
    place = 0
    for piece in pieces:
        if place == len(table) or piece not in table[place]:
            return False
        place = place + piece[0]
    return place == len(table)


def weights_of(piece, words, joins):
    """The piece's left sort, its right sort, and what it costs."""
    if piece[1] == BY_ITSELF:
        return (NO_SORT, NO_SORT, joins.by_itself)
    word = words[piece[1]]
    return (word.left, word.right, word.cost)


def cost_of_way(way, words, joins):
    cost = 0
    right = NO_SORT
    for piece in way:
        weights = weights_of(piece, words, joins)
        cost = cost + cost_of_join(joins, right, weights[0]) + weights[2]
        right = weights[1]
    return cost + cost_of_join(joins, right, NO_SORT)


def text_of_way(way, words, reading):
    text = []
    place = 0
    for piece in way:
        if piece[1] == BY_ITSELF:
            text.append(reading[place])
        else:
            text.extend(words[piece[1]].text)
        place = place + piece[0]
    return text
