"""Trees of deeds and looks: their parts, how they go from a crowd, and rows as trees.

Trees may be hundreds of parts deep: so they are walked by lists of what is still to be done, not by calls within calls.
"""

from sureplans.crowds import Look, Step, crowd_of, least_world, number_of, outside, where
from sureplans.doing import deed_called, refuse_no_crowd
from sureplans.houses import WISH
from sureplans.looking import look_called

# How many trees stand within a part: this and the heads of all parts, one behind the other, tell the whole tree.
MANY_WITHIN = {"end": 0, "do": 1, "see": 2}


def tree_parts(tree):
    """How many parts the tree has."""
    return len(parts_down(tree))


def tree_depth(tree):
    """How many parts ahead of an end there are on the longest way down."""
    depth = 0
    level = trees_within([tree])
    while len(level) > 0:
        depth += 1
        level = trees_within(level)
    return depth


def tree_goes(house, crowd, tree):
    """How the tree goes from the crowd: well, or it is stuck, or it ends where the wish does not hold."""
    refuse_no_crowd(house, crowd)
    acts = acts_of(house, heads_down(tree))
    wish = where(house, house[WISH])
    ends = []
    todo = [(tree, number_of(crowd), None)]
    while todo:
        part, here, way = todo.pop()
        head = part[:2]
        needed = acts[head].need if head in acts else wish
        bars = outside(here, needed)
        if bars > 0:
            return ("stuck" if head in acts else "ends", marks_on(way), least_world(bars))
        if head in acts:
            todo.extend(walked_next(part, acts[head], here, way)[::-1])
        else:
            ends.append(crowd_of(here))
    return ("well", ends)


def tree_of_row(row):
    """The tree of a row: its deeds one within another, and an end last."""
    tree = ("end",)
    for name in row[::-1]:
        tree = ("do", name, tree)
    return tree


def rows_of_tree(tree):
    """The names of the deeds on each way down the tree, in the order of the walk."""
    rows = []
    todo = [(tree, None)]
    while todo:
        part, way = todo.pop()
        if part[0] == "end":
            rows.append(marks_on(way))
        behind = (way, part[1]) if part[0] == "do" else way
        todo.extend([(within, behind) for within in part[:1:-1]])
    return rows


def walked_next(part, act, here, way):
    """What is walked next behind a do or a see: trees with the crowds that come to them, and the ways there."""
    return [
        (within, there, (way, mark))
        for within, there, mark in zip(part[2:], act.crowds_behind(here), act.marks) if there > 0
    ]


def marks_on(way):
    """The list of what stands on a way, which is None or a pair of the way so far and the last on it."""
    marks = []
    while way is not None:
        way, mark = way
        marks.append(mark)
    marks.reverse()
    return marks


def trees_within(parts):
    """The trees that stand just within these parts."""
    return [within for part in parts for within in part[2:]]


def parts_down(tree):
    """All parts of the tree, each ahead of those within it, yes ahead of no."""
    found = []
    todo = [tree]
    while todo:
        part = todo.pop()
        found.append(part)
        todo.extend(part[:1:-1])
    return found


def heads_down(tree):
    """The heads of all parts, such as ("end",), ("do", deed) and ("see", look), in the same order."""
    return [part[:2] for part in parts_down(tree)]


def tree_of_heads(heads):
    """The tree whose parts have these heads."""
    done = []
    for head in heads[::-1]:
        many = MANY_WITHIN[head[0]]
        # What stands first within a part is done last, and so lies on top.
        within = [done.pop() for _ in range(many)]
        done.append(head + tuple(within))
    return done.pop()


def acts_of(house, heads):
    """A dict from the head of each do and see to its deed or look; NoDeed or NoLook for the first that is none."""
    acts = {}
    for head in heads:
        if head not in acts and head[0] == "do":
            acts[head] = Step(house, deed_called(house, head[1]))
        elif head not in acts and head[0] == "see":
            acts[head] = Look(house, look_called(house, head[1]))
    return acts
