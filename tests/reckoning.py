"""A plain reckoning of all ways, from the document alone: every set of cuts, and every choice between them."""

import itertools


def words_in_order(lexicon):
    """(reading, text, left, right, cost) of each line, by number. Texts of Python's are in the order of rows."""
    parts = [line.split(" ") for line in lexicon.splitlines()]
    found = [(reading, text, int(left), int(right), int(cost)) for reading, text, left, right, cost in parts]
    return sorted(found, key=lambda word: (word[0], word[4], word[1]))


def join_costs(join_text):
    lines = [[int(part) for part in line.split(" ")] for line in join_text.splitlines()]
    return lines[0][0], {(right, left): cost for right, left, cost in lines[1:]}


def ways_cut(words, reading, ends):
    """All ways whose pieces end just at these places."""
    starts = (0,) + ends[:-1]
    kinds = []
    for start, end in zip(starts, ends, strict=True):
        kind = [(end - start, number) for number, word in enumerate(words) if word[0] == reading[start:end]]
        kinds.append(kind + [(1, -1)] * (end - start == 1))
    return itertools.product(*kinds)


def all_ways(words, reading):
    places = range(1, len(reading))
    for count in range(len(reading)):
        for ends in itertools.combinations(places, count):
            yield from ways_cut(words, reading, ends + (len(reading),))


def cost_of(way, words, join_text):
    by_itself, costs = join_costs(join_text)
    met = [(0, 0, 0)] + [words[number][2:] if number >= 0 else (0, 0, by_itself) for length, number in way] + [(0, 0, 0)]
    total = sum(cost for left, right, cost in met)
    return total + sum(costs.get((before[1], behind[0]), 0) for before, behind in zip(met, met[1:]))


def text_of(way, words, reading):
    text = ""
    for length, number in way:
        text, reading = text + (words[number][1] if number >= 0 else reading[:1]), reading[length:]
    return text


def keeps(way, cuts, choices):
    ends = list(itertools.accumulate(length for length, number in way))
    begun = dict(zip([0] + ends[:-1], [number for length, number in way], strict=True))
    for place, cut in enumerate(cuts, 1):
        if cut == 1 and place not in ends or cut == 2 and place in ends:
            return False
    return all(place in begun and begun[place] == number for place, number in zip(choices[::2], choices[1::2], strict=True))


def told(lexicon, join_text, reading, cuts=(), choices=()):
    """(cost, way) of each way that keeps what's settled, in order; None where there are too many."""
    words = words_in_order(lexicon)
    ways = list(itertools.islice(all_ways(words, reading), 1025))
    if len(ways) > 1024:
        return None
    kept = [(cost_of(way, words, join_text), way) for way in ways if keeps(way, cuts, choices)]
    return sorted(kept, key=lambda found: (found[0], [(-length, number < 0, number) for length, number in found[1]]))
