"""Papers of never: crowds that show together that no row goes well."""

from sureplans.crowds import Ground, crowd_of, number_of, within
from sureplans.doing import refuse_no_crowd
from sureplans.errors import NoPaper
from sureplans.houses import are_worlds


def never_shows(house, paper):
    """Whether the paper of never is let by for the house."""
    return is_let_by(house, paper, Ground(house))


def less_paper(house, paper):
    """Some crowds of a paper that is let by, without any one of which it is not; NoPaper where it is not let by."""
    refuse_no_paper(house, paper)
    ground = Ground(house)
    crowds = list(numbers_each_once(paper))
    starts = places_within(crowds, ground.firsts)
    asked = asked_for(ground, crowds)
    kept = (1 << len(crowds)) - 1
    spare = kept - needed_places(starts, asked, kept)
    while spare > 0:
        # One at a time, for without it others may be needed.
        kept -= spare & -spare
        spare = kept - needed_places(starts, asked, kept)
    return [crowd_of(crowds[place]) for place in crowd_of(kept)]


def is_hopeless(house, paper, crowd):
    """Whether some crowd of a paper that is let by lies within the crowd."""
    refuse_no_paper(house, paper)
    refuse_no_crowd(house, crowd)
    return has_one_within(numbers_each_once(paper), number_of(crowd))


def is_let_by(house, paper, ground):
    """Whether the paper is let by, where the ground made of the house tells the firsts, what is well, and choices."""
    if not all(are_worlds(house, crowd) for crowd in paper):
        return False
    crowds = numbers_each_once(paper)
    if not has_one_within(crowds, ground.firsts) or any(ground.is_well(crowd) for crowd in crowds):
        return False
    return all(stays_in_paper(ground, crowds, crowd) for crowd in crowds)


def refuse_no_paper(house, paper):
    """Refuse with NoPaper a paper that is not let by."""
    if not never_shows(house, paper):
        raise NoPaper("the paper of never is not let by")


def numbers_each_once(paper):
    """The crowds of the paper as numbers, in order, as the keys of a dict."""
    return {number_of(crowd): True for crowd in paper}


def has_one_within(crowds, outer):
    """Whether some one of the crowds, the keys of a dict, lies within the outer crowd."""
    return holds_one(crowds, (outer,))


def holds_one(crowds, outers):
    """Whether some one of the crowds, the keys of a dict, lies within some one of the outer crowds."""
    # In papers that list all that can be come to, an outer crowd is often there itself.
    if any(outer in crowds for outer in outers):
        return True
    return any(within(crowd, outer) for outer in outers for crowd in crowds)


def stays_in_paper(ground, crowds, crowd):
    """Whether, whatever is chosen in this crowd, some one of the crowds lies within one of those it leads to."""
    return all(holds_one(crowds, outers) for outers in ground.choices_in(crowd))


def places_within(crowds, outer):
    """The places of those crowds that lie within the outer one, as bits of a number."""
    return number_of([place for place, crowd in enumerate(crowds) if within(crowd, outer)])


def asked_for(ground, crowds):
    """What the crowds ask for: a dict from places, of which one must stay, to the places of the crowds that ask."""
    places = {}
    asked = {}
    for place, crowd in enumerate(crowds):
        for _, behind in ground.steps_from(crowd):
            if behind not in places:
                places[behind] = places_within(crowds, behind)
            # A crowd that lies within what is behind itself needs no other one for that.
            if not within(1 << place, places[behind]):
                asked[places[behind]] = asked.get(places[behind], 0) | (1 << place)
    return asked


def needed_places(starts, asked, kept):
    """The places among those kept that alone are left of what is asked for by others."""
    needed = alone(starts & kept)
    for places, asking in asked.items():
        if (asking & kept) > 0:
            needed |= alone(places & kept)
    return needed


def alone(places):
    """The places where this is only one, else none."""
    return places if places == (places & -places) else 0
