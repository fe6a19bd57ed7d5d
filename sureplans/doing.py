"""Deeds done: the worlds and the crowds behind them, and which can be done."""

from sureplans.crowds import Step, crowd_of, number_of
from sureplans.errors import NoDeed, NoNeed, NoWorld
from sureplans.houses import DEEDS, are_worlds, holds_in_each


def worlds_behind(house, deed, world):
    """The worlds behind a deed, one for each way, sorted, each once."""
    # What is no world is no crowd by itself either, so that both are refused alike.
    return list(crowd_behind(house, deed, (world,)))


def crowd_behind(house, deed, crowd):
    """The crowd of all worlds behind a deed that is done in each world of a crowd."""
    step = Step(house, deed_called(house, deed))
    refuse_no_crowd(house, crowd)
    here = number_of(crowd)
    if not step.can(here):
        raise NoNeed(f"{deed} cannot be done there")
    return crowd_of(step.behind(here))


def doable_in(house, crowd):
    """The names of the deeds that can be done in a crowd, in the house's order."""
    refuse_no_crowd(house, crowd)
    return [name for name, need, ways in house[DEEDS] if holds_in_each(house, need, crowd)]


def steps_of_row(house, row):
    """The steps of a row, one after another; NoDeed where a deed of it is none."""
    steps = {}
    for name in row:
        if name not in steps:
            steps[name] = Step(house, deed_called(house, name))
    return [steps[name] for name in row]


def deed_called(house, name):
    """The deed of that name; NoDeed where there is none."""
    for deed in house[DEEDS]:
        if deed[0] == name:
            return deed
    raise NoDeed(f"{name!r} is no deed")


def refuse_no_crowd(house, crowd):
    """Refuse with NoWorld what is no crowd of the house's worlds."""
    if not are_worlds(house, crowd):
        # The numbers are not shown: Python refuses to write out very long ones.
        raise NoWorld("not one or more worlds of this house, rising")
