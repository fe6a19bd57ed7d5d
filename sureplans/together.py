"""Houses side by side: two made one, papers and rows for both, and a house kept to some of its facts."""

from sureplans.errors import NoHouse, NoPlan
from sureplans.houses import (
    DEEDS, FACTS, FIRSTS, LOOKS, WISH, deed_names_only, house_of, look_names_only, names_to_call, worlds_in_all)
from sureplans.never import refuse_no_paper
from sureplans.rows import row_goes


def side_by_side(one, other):
    """The house of both: the one's facts, deeds and looks ahead, and its worlds in the lower bits."""
    refuse_shared_names(one, other)
    firsts = [put_above(one, world, above) for above in other[FIRSTS] for world in one[FIRSTS]]
    wish = ("both", one[WISH], other[WISH])
    return house_of(one[FACTS] + other[FACTS], one[DEEDS] + other[DEEDS], one[LOOKS] + other[LOOKS], firsts, wish)


def paper_for_both(one, other, paper):
    """A paper of never for the one house, made one for both: each of its crowds with each world of the other house."""
    refuse_shared_names(one, other)
    refuse_no_paper(one, paper)
    above_all = range(worlds_in_all(other))
    return [tuple([put_above(one, world, above) for world in crowd]) for crowd in paper for above in above_all]


def row_for_both(one, other, row, other_row):
    """A row that goes well for both houses, of a row for each, put one behind the other."""
    refuse_shared_names(one, other)
    told = [row_goes(one, tuple(one[FIRSTS]), row), row_goes(other, tuple(other[FIRSTS]), other_row)]
    if told[0][0] != "well" or told[1][0] != "well":
        raise NoPlan("one of the rows does not go well")
    return row + other_row


def house_kept_to(house, facts):
    """The part of the house that names these facts alone."""
    if len(facts) == 0 or not all(fact in house[FACTS] for fact in facts):
        raise NoHouse("not one or more facts of the house")
    deeds = [deed for deed in house[DEEDS] if deed_names_only(facts, deed)]
    looks = [look for look in house[LOOKS] if look_names_only(facts, look)]
    places = [house[FACTS].index(fact) for fact in facts]
    firsts = sorted(set([kept_world(places, world) for world in house[FIRSTS]]))
    # A fact that is there twice, or a wish that names another one, is refused there.
    return house_of(facts, deeds, looks, firsts, house[WISH])


def refuse_shared_names(one, other):
    """Refuse with NoHouse two houses in both of which one name stands."""
    names = all_names(one)
    if any(name in names for name in all_names(other)):
        raise NoHouse("a name stands in both houses")


def all_names(house):
    """The names of the facts, the deeds and the looks."""
    return house[FACTS] + names_to_call(house)


def put_above(one, world, above):
    """The world of both houses with the one's world in the lower bits and the other's above."""
    return world + above * worlds_in_all(one)


def kept_world(places, world):
    """The world with the bits at these places alone, in their order."""
    return sum([((world >> place) & 1) << at for at, place in enumerate(places)])
