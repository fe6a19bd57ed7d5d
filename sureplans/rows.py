"""Rows of deeds: how they go from a crowd, how they may run from a world, and what is known in a crowd."""

from sureplans.crowds import crowd_of, least_world, number_of, outside, where, where_so, within
from sureplans.doing import refuse_no_crowd, steps_of_row
from sureplans.houses import FACTS, WISH


def row_goes(house, crowd, row):
    """How the row goes from the crowd: well, or stuck at a place of it, or it ends where the wish does not hold."""
    steps = steps_of_row(house, row)
    refuse_no_crowd(house, crowd)
    crowds = crowds_along(steps, number_of(crowd))
    place = len(crowds) - 1
    if place < len(steps):
        return ("stuck", place, least_world(outside(crowds[place], steps[place].need)))
    not_well = outside(crowds[-1], where(house, house[WISH]))
    if not_well > 0:
        return ("ends", least_world(not_well))
    return ("well", [crowd_of(number) for number in crowds])


def crowds_along(steps, crowd):
    """The crowds that the steps lead through, this one ahead, up to the first step that can't be done."""
    crowds = [crowd]
    for step in steps:
        if not step.can(crowds[-1]):
            return crowds
        crowds.append(step.behind(crowds[-1]))
    return crowds


def may_run(house, world, row):
    """All lists of worlds that the row may go through from this world, as chance may have it, sorted, each once."""
    steps = steps_of_row(house, row)
    refuse_no_crowd(house, (world,))
    runs = [[world]]
    for place, step in enumerate(steps):
        runs = [longer for run in runs for longer in runs_on(run, place, step)]
    return runs


def runs_on(run, place, step):
    """The runs that a run becomes by the step at a place of the row, sorted: itself where it has ended."""
    # A run that has ended ahead of this place has fewer worlds than there are ahead of the step.
    if len(run) <= place or not step.can(1 << run[-1]):
        return [run]
    return [run + [world] for world in crowd_of(step.behind(1 << run[-1]))]


def known_in(house, crowd):
    """The facts that are so, or not so, in all worlds of the crowd, each with its truth, in the house's order."""
    refuse_no_crowd(house, crowd)
    here = number_of(crowd)
    known = []
    for fact in house[FACTS]:
        so = where_so(house, fact)
        if within(here, so):
            known.append((fact, True))
        elif (here & so) == 0:
            known.append((fact, False))
    return known
