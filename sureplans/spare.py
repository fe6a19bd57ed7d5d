"""Spare parts: rows and trees that go well, made less, and the bare form of a tree."""

from sureplans.crowds import number_of, where, within
from sureplans.doing import refuse_no_crowd, steps_of_row
from sureplans.errors import NoPlan
from sureplans.houses import WISH
from sureplans.trees import MANY_WITHIN, acts_of, heads_down, tree_of_heads


class Layout:
    """A tree laid out as the heads of its parts in the order of the walk down, with places of what is within each."""

    def __init__(self, heads):
        self.heads = heads
        self.inner = [[] for _ in heads]
        # For each part the first place behind it and all that is within it.
        self.ends = [0 for _ in heads]
        for place in range(len(heads) - 1, -1, -1):
            at = place + 1
            for _ in range(MANY_WITHIN[heads[place][0]]):
                self.inner[place].append(at)
                at = self.ends[at]
            self.ends[place] = at

    def put_out(self, place, other):
        """The heads of the tree that has, in the place of one part, another one within that."""
        return self.heads[:place] + self.heads[other:self.ends[other]] + self.heads[self.ends[place]:]


def row_made_less(house, crowd, row):
    """The row without its first spare deed, again and again, as long as there is one."""
    refuse_no_crowd(house, crowd)
    steps = steps_of_row(house, row)
    here = number_of(crowd)
    wish = where(house, house[WISH])
    refuse_no_plan(here, goods_along(steps, wish))
    place = spare_place(steps, here, wish)
    while place is not None:
        steps.pop(place)
        place = spare_place(steps, here, wish)
    return [step.name for step in steps]


def tree_made_less(house, crowd, tree):
    """The tree with its first spare part put out for one within it, again and again, as long as there is one."""
    refuse_no_crowd(house, crowd)
    heads = heads_down(tree)
    acts = acts_of(house, heads)
    here = number_of(crowd)
    wish = where(house, house[WISH])
    refuse_no_plan(here, goods_within(Layout(heads), acts, wish))
    less = heads
    while less is not None:
        heads = less
        less = one_less(Layout(heads), acts, here, wish)
    return tree_of_heads(heads)


def bare_tree(house, crowd, tree):
    """The tree without those looks of which only one side is come to."""
    refuse_no_crowd(house, crowd)
    layout = Layout(heads_down(tree))
    acts = acts_of(house, layout.heads)
    refuse_no_plan(number_of(crowd), goods_within(layout, acts, where(house, house[WISH])))
    bare = []
    todo = [(0, number_of(crowd))]
    while todo:
        place, here = todo.pop()
        head = layout.heads[place]
        inner = layout.inner[place]
        walked = [(at, there) for at, there in led_to(acts, head, here, inner) if there > 0]
        # A see with one side alone goes, and so nothing is left that no crowd comes to.
        if len(walked) == len(inner):
            bare.append(head)
        todo.extend(walked[::-1])
    return tree_of_heads(bare)


def refuse_no_plan(here, goods):
    """Refuse with NoPlan what does not go well from all worlds of the crowd."""
    if not within(here, goods[0]):
        raise NoPlan("this does not go well from there")


def goods_along(steps, wish):
    """For each place of a row the worlds from which the rest of it goes well, and last the wish itself."""
    goods = [wish]
    for step in reversed(steps):
        goods.append(step.good_ahead(goods[-1:]))
    goods.reverse()
    return goods


def spare_place(steps, here, wish):
    """The place of the first spare deed of a row that goes well from here, or None."""
    goods = goods_along(steps, wish)
    for place, step in enumerate(steps):
        if within(here, goods[place + 1]):
            return place
        here = step.behind(here)
    return None


def goods_within(layout, acts, wish):
    """For each part of a tree the worlds from which it goes well."""
    goods = [wish for _ in layout.heads]
    for place in range(len(goods) - 1, -1, -1):
        head = layout.heads[place]
        if head in acts:
            goods[place] = acts[head].good_ahead([goods[at] for at in layout.inner[place]])
    return goods


def one_less(layout, acts, here, wish):
    """The heads of the tree with its first spare part put out, or None where there is none."""
    goods = goods_within(layout, acts, wish)
    crowds = [here for _ in goods]
    for place, inner in enumerate(layout.inner):
        for at in inner:
            # Nothing comes from where no crowd comes to, and so each part there is spare.
            if within(crowds[place], goods[at]):
                return layout.put_out(place, at)
        for at, there in led_to(acts, layout.heads[place], crowds[place], inner):
            crowds[at] = there
    return None


def led_to(acts, head, here, inner):
    """The places within a part, each with the crowd that comes to it from the crowd here."""
    if head not in acts:
        return []
    return list(zip(inner, acts[head].crowds_behind(here)))
