"""Sure trees: a tree of the least depth that goes well, how deep it must be, and papers of never with looks."""

from collections import deque

from sureplans.crowds import Ground, crowd_of, number_of, refuse_too_many
from sureplans.doing import refuse_no_crowd
from sureplans.looking import looks_of
from sureplans.never import is_let_by


class Seeing:
    """A house made ready for a search among crowds by deeds and looks: what a Ground tells, this tells with looks."""

    def __init__(self, house):
        self.ground = Ground(house)
        self.firsts = self.ground.firsts
        self.looks = looks_of(house)
        self.kept = {}

    def is_well(self, crowd):
        """Whether this is a crowd, and the wish holds in each of its worlds."""
        return self.ground.is_well(crowd)

    def choices_in(self, crowd):
        """A tuple for each deed that can be done in the crowd, and each look: of the crowds it leads to."""
        return self.ground.choices_in(crowd) + [look.crowds_behind(crowd) for look in self.looks if look.can(crowd)]

    def acts_in(self, crowd):
        """The same with heads of trees ahead, and only such looks as tell something."""
        # Kept, for more than one search may come to the crowd.
        if crowd not in self.kept:
            done = [(("do", step.name), step.crowds_behind(crowd)) for step in self.ground.steps if step.can(crowd)]
            seen = [(("see", look.name), look.crowds_behind(crowd)) for look in self.looks if look.can(crowd)]
            self.kept[crowd] = done + [(head, sides) for head, sides in seen if 0 not in sides]
        return self.kept[crowd]


def sure_tree(house):
    """A least tree that goes well from the firsts, or a paper of never with looks where there is none."""
    counts, told = least_sought(house)
    return ("tree", told) if counts is not None else ("never", told)


def sure_counts(house):
    """The depth and the parts of the tree that sure_tree tells, or None; it may have more than can be walked."""
    counts, _ = least_sought(house)
    return counts


def least_sought(house):
    """The depth and the parts of a least tree that goes well from the firsts, and the tree; or None, and a paper."""
    seeing = Seeing(house)
    found = come_to(seeing, seeing.firsts)
    depths = depths_in(seeing, found)
    if seeing.firsts not in depths:
        return (None, [crowd_of(crowd) for crowd in found if crowd not in depths])
    depth = depths[seeing.firsts]
    parts, tree = least_tree(seeing, found, depth)
    return ((depth, parts), tree)


def least_depths(house, crowds):
    """The least depth of a tree that goes well from each of the crowds, None where there is none."""
    for crowd in crowds:
        refuse_no_crowd(house, crowd)
    seeing = Seeing(house)
    numbers = [number_of(crowd) for crowd in crowds]
    least = {}
    for crowd in numbers:
        if crowd not in least:
            # From each crowd found here a search would find no others, and so would not be refused.
            found = come_to(seeing, crowd)
            depths = depths_in(seeing, found)
            for each in found:
                least[each] = depths.get(each)
    return [least[crowd] for crowd in numbers]


def never_with_looks(house, paper):
    """Whether the paper of never with looks is let by for the house."""
    return is_let_by(house, paper, Seeing(house))


def come_to(seeing, start):
    """All crowds that can be come to from the start, as keys, with what can be done and seen in them."""
    found = {start: []}
    queue = deque([start])
    while queue:
        here = queue.popleft()
        acts = seeing.acts_in(here)
        found[here] = acts
        for _, crowds in acts:
            for there in crowds:
                if there not in found:
                    refuse_too_many(found)
                    found[there] = []
                    queue.append(there)
    return found


def crowds_ahead(found):
    """A dict from each crowd found to those from which one act may lead to it."""
    ahead = {crowd: [] for crowd in found}
    for here, acts in found.items():
        for _, crowds in acts:
            for there in crowds:
                ahead[there].append(here)
    return ahead


def ahead_of(ahead, crowds):
    """Those from which one act may lead to some one of the crowds, each once, as the keys of a dict."""
    return {here: True for crowd in crowds for here in ahead[crowd]}


def depths_in(seeing, found):
    """The least depth of a tree that goes well, for each crowd found that has one."""
    ahead = crowds_ahead(found)
    depths = {crowd: 0 for crowd in found if seeing.is_well(crowd)}
    level = list(depths)
    depth = 0
    while len(level) > 0:
        depth += 1
        touched = [crowd for crowd in ahead_of(ahead, level) if crowd not in depths]
        level = [crowd for crowd in touched if any(all_among(depths, crowds) for _, crowds in found[crowd])]
        for crowd in level:
            depths[crowd] = depth
    return depths


def all_among(told, crowds):
    """Whether all of the crowds are among those told of."""
    return all(crowd in told for crowd in crowds)


def least_tree(seeing, found, depth):
    """How many parts a tree of at most this depth has at least that goes well from the firsts, and such a tree."""
    ahead = crowds_ahead(found)
    best = {crowd: (1, ("end",)) for crowd in found if seeing.is_well(crowd)}
    changed = best
    for _ in range(depth):
        # All at once: trees that are by one less deep make these.
        better = {}
        for crowd in ahead_of(ahead, changed):
            made = least_made(found[crowd], best)
            if made is not None and (crowd not in best or made[0] < best[crowd][0]):
                better[crowd] = made
        best.update(better)
        changed = better
    return best[seeing.firsts]


def least_made(acts, best):
    """The least tree that begins with one of the acts and goes on with best trees, its parts ahead; or None."""
    least = None
    for head, crowds in acts:
        if all_among(best, crowds):
            parts = 1 + sum(best[there][0] for there in crowds)
            if least is None or parts < least[0]:
                least = (parts, head, crowds)
    if least is None:
        return None
    parts, head, crowds = least
    return (parts, head + tuple(best[there][1] for there in crowds))
