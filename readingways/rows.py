"""Rows that hold two numbers each for one thing: choices and pieces."""


def is_of_pairs(row):
    """Whether the row holds two numbers each, the first of them never below 0."""
    if len(row) % 2 != 0:
        return False
    for place in range(0, len(row), 2):
        if row[place] < 0:
            return False
    return True


def pairs_of(row):
    return [(row[place], row[place + 1]) for place in range(0, len(row), 2)]


def row_of_pairs(pairs):
    row = []
    for pair in pairs:
        row.append(pair[0])
        row.append(pair[1])
    return row
