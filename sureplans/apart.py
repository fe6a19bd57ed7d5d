"""Worlds told apart: rows that go well from just one of two crowds, and the worlds from which a row goes well."""

from sureplans.crowds import Ground, crowd_of, number_of, row_to, search, where
from sureplans.doing import refuse_no_crowd, steps_of_row
from sureplans.houses import WISH


class Pairs:
    """A house made ready for a search among pairs of crowds, either one perhaps 0: nothing."""

    def __init__(self, house):
        self.ground = Ground(house)

    def are_parted(self, pair):
        """Whether all is well in just one of the two."""
        one, other = pair
        return self.ground.is_well(one) != self.ground.is_well(other)

    def steps_from(self, pair):
        """A tuple for each deed that leads to an unlike pair: its place in the house, and the pair behind."""
        found = []
        for place, step in enumerate(self.ground.steps):
            one, other = [step.behind(crowd) if step.can(crowd) else 0 for crowd in pair]
            if one != other:
                found.append((place, (one, other)))
        return found


def parting_row(house, one, other):
    """The first of the shortest rows that go well from just one of the two crowds, or None."""
    refuse_no_crowd(house, one)
    refuse_no_crowd(house, other)
    pairs = Pairs(house)
    # Of crowds alike nothing more is found, for whatever is done they stay so.
    found, parted = search((number_of(one), number_of(other)), pairs.steps_from, pairs.are_parted)
    if parted is None:
        return None
    return row_to(pairs.ground.steps, found, parted)


def good_worlds(house, row):
    """All worlds from which, alone, the row goes well, rising."""
    good = where(house, house[WISH])
    for step in reversed(steps_of_row(house, row)):
        good = step.good_ahead([good])
    return list(crowd_of(good))
