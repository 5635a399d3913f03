"""What is settled of a reading: cuts and choices."""

from readingways.rows import pairs_of

CUT = 1
NO_CUT = 2


class Settled:
    """By place, from 0 up to behind the last sound, what is settled of a cut; by place the number chosen there."""

    def __init__(self, cuts, chosen):
        self.cuts = cuts
        self.chosen = chosen


def settle(count, cuts, choices):
    """What these cuts and choices settle of a reading of so many sounds."""
    chosen = {}
    for choice in pairs_of(choices):
        chosen[choice[0]] = choice[1]
    return Settled([0] + cuts + [0] * (count - len(cuts)), chosen)


def may_stand(piece, place, settled):
    """Whether the piece at this place goes against nothing that is settled."""
    end = place + piece[0]
    if place in settled.chosen and settled.chosen[place] != piece[1]:
        return False
    if settled.cuts[end] == NO_CUT:
        return False
    for within in range(place + 1, end):
        # A choice asks that a piece begins at its place, so none may run over it.
        if settled.cuts[within] == CUT or within in settled.chosen:
            return False
    return True


def kept_of(table, settled):
    """The table without the pieces that go against what is settled: what it makes up are the ways that keep it."""
    kept = []
    for place, pieces in enumerate(table):
        kept.append([piece for piece in pieces if may_stand(piece, place, settled)])
    return kept
