"""Deeds done: the worlds and the crowds behind them, and which can be done."""

from sureplans.errors import NoDeed, NoNeed, NoWorld
from sureplans.houses import DEEDS, are_worlds, fact_bit, holds_in, holds_in_each


def worlds_behind(house, deed, world):
    """The worlds behind a deed, one for each way, sorted, each once."""
    # What is no world is no crowd by itself either, so that both are refused alike.
    return list(crowd_behind(house, deed, (world,)))


def crowd_behind(house, deed, crowd):
    """The crowd of all worlds behind a deed that is done in each world of a crowd."""
    _, need, ways = deed_called(house, deed)
    refuse_no_crowd(house, crowd)
    if not holds_in_each(house, need, crowd):
        raise NoNeed(f"{deed} cannot be done there")
    return tuple(sorted({world_by(house, way, world) for world in crowd for way in ways}))


def doable_in(house, crowd):
    """The names of the deeds that can be done in a crowd, in the house's order."""
    refuse_no_crowd(house, crowd)
    return [name for name, need, ways in house[DEEDS] if holds_in_each(house, need, crowd)]


def deed_called(house, name):
    """The deed of that name; NoDeed where there is none."""
    for deed in house[DEEDS]:
        if deed[0] == name:
            return deed
    raise NoDeed(f"{name!r} is no deed")


def refuse_no_crowd(house, crowd):
    """Refuse with NoWorld what is no crowd of the house's worlds."""
    if not are_worlds(house, crowd):
        # The numbers are not shown: Python refuses to write out very long ones.
        raise NoWorld("not one or more worlds of this house, rising")


def world_by(house, way, world):
    """The world behind one way of a deed that is done in a world."""
    behind = world
    for when, fact, truth in way:
        # Each when is asked of the world ahead: the changes are made at once.
        if holds_in(house, when, world):
            behind = with_fact(house, fact, truth, behind)
    return behind


def with_fact(house, fact, truth, world):
    """The world that is like this one, but with the fact so, or not so."""
    bit = fact_bit(house, fact)
    if truth:
        return world | bit
    return (world | bit) - bit
