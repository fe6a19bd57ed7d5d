"""Looks: the two sides into which a crowd falls, and what looks would tell in it."""

from sureplans.crowds import Look, crowd_of, number_of
from sureplans.doing import refuse_no_crowd
from sureplans.errors import NoLook, NoNeed
from sureplans.houses import LOOKS


def sides_of(house, look, crowd):
    """The worlds of the crowd in which the look sees yes, and those in which it sees no, either perhaps ()."""
    looked = Look(house, look_called(house, look))
    refuse_no_crowd(house, crowd)
    here = number_of(crowd)
    if not looked.can(here):
        raise NoNeed(f"{look} cannot be looked at there")
    yes, no = looked.crowds_behind(here)
    return (crowd_of(yes), crowd_of(no))


def looks_in(house, crowd):
    """Each look that would tell something in the crowd, with how many worlds its yes side has, and its no side."""
    refuse_no_crowd(house, crowd)
    here = number_of(crowd)
    told = []
    for look in looks_of(house):
        yes, no = look.crowds_behind(here)
        if look.can(here) and yes > 0 and no > 0:
            told.append((look.name, len(crowd_of(yes)), len(crowd_of(no))))
    return told


def looks_of(house):
    """All looks of the house, made ready for many crowds."""
    return [Look(house, look) for look in house[LOOKS]]


def look_called(house, name):
    """The look of that name; NoLook where there is none."""
    for look in house[LOOKS]:
        if look[0] == name:
            return look
    raise NoLook(f"{name!r} is no look")
