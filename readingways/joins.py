"""Joins, and the reading and writing of their text."""

from readingways.faults import Fault
from readingways.lines import MOST_COST, MOST_SORT, is_ended, line_of, lines_of, parts_of, values_of


class Joins:
    """What a sound costs by itself, and by (right sort, left sort) the costs of the joins that don't cost 0."""

    def __init__(self, by_itself, costs):
        self.by_itself = by_itself
        self.costs = costs


def new_joins():
    return Joins(MOST_COST, {})


def cost_of_join(joins, right, left):
    """What it costs that a left sort stands behind a right sort."""
    return joins.costs.get((right, left), 0)


def numbers_of(line, count):
    """The numbers of the line; None if it is no line of just so many numbers."""
    if not is_ended(line):
        return None
    parts = parts_of(line[:-1])
    if len(parts) != count:
        return None
    return values_of(parts)


def kind_of_first(numbers):
    """The least kind of what is wrong with the first line; 0 if nothing is."""
    if numbers is None:
        return 1
    if numbers[0] > MOST_COST:
        return 2
    return 0


def kind_of_join(numbers, costs):
    """The least kind of what is wrong with a join's line behind those that told these costs; 0 if nothing is."""
    if numbers is None:
        return 1
    if numbers[0] > MOST_SORT or numbers[1] > MOST_SORT or numbers[2] > MOST_COST:
        return 2
    if (numbers[0], numbers[1]) in costs:
        return 3
    return 0


def read_by_itself(lines):
    """What the first line tells that a sound costs by itself; raises its Fault."""
    if lines == []:
        raise Fault(0, 1)
    numbers = numbers_of(lines[0], 1)
    kind = kind_of_first(numbers)
    if kind != 0:
        raise Fault(0, kind)
    return numbers[0]


def read_costs(lines):
    """All costs that the lines behind the first one tell, those of 0 too; raises their Fault."""
    costs = {}
    for place, line in enumerate(lines[1:], start=1):
        numbers = numbers_of(line, 3)
        kind = kind_of_join(numbers, costs)
        if kind != 0:
            raise Fault(place, kind)
        costs[(numbers[0], numbers[1])] = numbers[2]
    return costs


def without_zeros(costs):
    kept = {}
    for sorts, cost in costs.items():
        if cost != 0:
            kept[sorts] = cost
    return kept


def read_joins(text):
    """The joins that a joins' text tells; raises its Fault."""
    lines = lines_of(text)
    by_itself = read_by_itself(lines)
    return Joins(by_itself, without_zeros(read_costs(lines)))


def text_of_joins(joins):
    """The joins' text, by right, then left sorts."""
    text = line_of([joins.by_itself])
    for sorts in sorted(joins.costs):
        text.extend(line_of([sorts[0], sorts[1], joins.costs[sorts]]))
    return text
