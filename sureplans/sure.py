"""Sure rows: the shortest row that goes well, how many there are, and how many deeds are needed."""

from sureplans.crowds import Ground, crowd_of, number_of, refuse_too_many, row_to, search
from sureplans.doing import refuse_no_crowd


def sure_row(house):
    """The first of the shortest rows that go well from the firsts, or a paper of never where there is none."""
    ground = Ground(house)
    found, well = search(ground.firsts, ground.steps_from, ground.is_well)
    if well is None:
        # All that can be come to leads to no other crowds, and so shows by itself that none of it is ever well.
        return ("never", [crowd_of(number) for number in found])
    return ("row", row_to(ground.steps, found, well))


def how_many_rows(house):
    """How many rows of the least length go well from the firsts; 0 where there are none."""
    ground = Ground(house)
    found = {ground.firsts: True}
    # How many rows lead to each crowd that no shorter row leads to.
    level = {ground.firsts: 1}
    while len(level) > 0:
        many = sum([level[crowd] for crowd in level if ground.is_well(crowd)])
        if many > 0:
            return many
        level = next_level(ground, level, found)
    return 0


def next_level(ground, level, found):
    """How many rows lead to each crowd that is found by one deed more, and is added to those found."""
    behind = {}
    for crowd, many in level.items():
        for _, there in ground.steps_from(crowd):
            if there in behind:
                behind[there] += many
            elif there not in found:
                refuse_too_many(found)
                found[there] = True
                behind[there] = many
    return behind


def least_deeds(house, crowds):
    """How many deeds are needed at least from each of the crowds, None where no row goes well from it."""
    for crowd in crowds:
        refuse_no_crowd(house, crowd)
    ground = Ground(house)
    numbers = [number_of(crowd) for crowd in crowds]
    least = {}
    for crowd in numbers:
        if crowd not in least:
            learn_least(ground, crowd, least)
    return [least[crowd] for crowd in numbers]


def learn_least(ground, crowd, least):
    """Add to `least` how many deeds are needed from the crowd, and from others of which its search tells it, too."""
    found, there = search(crowd, ground.steps_from, ground.is_well)
    # From any crowd found here where none is well, and from any on the row to the first that is, a search would find
    # no crowds but some of these, and so would not be refused.
    if there is None:
        for each in found:
            least[each] = None
        return
    least[there] = 0
    while found[there] is not None:
        ahead, _ = found[there]
        least[ahead] = least[there] + 1
        there = ahead
