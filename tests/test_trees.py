"""Tests of sureplans.trees: points [2], [3], [32], [33] and [37]."""

import copy
import itertools
import random
import unittest

from sureplans.errors import NoDeed, NoLook, NoWorld
from sureplans.houses import house_of
from sureplans.rows import row_goes
from sureplans.trees import (
    heads_down, rows_of_tree, tree_depth, tree_goes, tree_of_heads, tree_of_row, tree_parts)
from tests.samples import (
    LETTERS, YES, all_trees, bare_parts, fact, kinds_of, lists_within, mapped_parts, maps_of, random_crowd,
    random_parts, random_tree, refusal_of, ruled_with_looks, safe_parts, seen_by, tree_goes_by_maps, with_looks)

END = ("end",)
NO_CROWDS = [(), (1, 0), (1, 1), (-1,), (0, 4), (4,), (1 << 64,), (10 ** 5000,), (True,)]

# Over four worlds: go leads down to 0, jump may lead up, lift is for 0 and 1 alone; odd sees 1 and 3, top is for 2 and 3.
MAPS = [("go", {1: [0], 2: [1], 3: [2], 0: [0]}), ("jump", {0: [1, 3], 1: [2], 2: [3], 3: [3]}),
        ("lift", {0: [2], 1: [3]})]
LOOKS = [("odd", range(4), [1, 3]), ("top", [2, 3], [3])]


def do(name, tree=END):
    return ("do", name, tree)


def see(name, yes=END, no=END):
    return ("see", name, yes, no)


def sample_house(well, firsts=(0,)):
    return house_of(*with_looks(mapped_parts(2, MAPS, firsts, well), LOOKS))


def full_tree(depth):
    """A tree of looks alone on each way of which there are so many."""
    tree = END
    for _ in range(depth):
        tree = see("odd", tree, tree)
    return tree


def comb(depth, name="odd"):
    """A tree so deep, with an end at each of its looks' yes sides: of 2 * depth + 1 parts."""
    tree = END
    for _ in range(depth):
        tree = see(name, END, tree)
    return tree


def parts_by_calls(tree):
    return 1 + sum(parts_by_calls(within) for within in tree[2:])


def depth_by_calls(tree):
    return max((1 + depth_by_calls(within) for within in tree[2:]), default=0)


def rows_by_calls(tree):
    if tree[0] == "end":
        return [[]]
    rows = [row for within in tree[2:] for row in rows_by_calls(within)]
    return [[tree[1]] + row for row in rows] if tree[0] == "do" else rows


class TestPartsAndDepth(unittest.TestCase):
    """[32]"""

    def assert_counted(self, tree, parts, depth):
        self.assertEqual(tree_parts(tree), parts)
        self.assertEqual(tree_depth(tree), depth)
        self.assertEqual((tree_parts(tree).__class__, tree_depth(tree).__class__), (int, int))

    def test_an_end(self):
        self.assert_counted(END, 1, 0)

    def test_do_and_see(self):
        self.assert_counted(do("go"), 2, 1)
        self.assert_counted(see("odd"), 3, 1)

    def test_do_and_see_within_one_another(self):
        self.assert_counted(do("go", do("go")), 3, 2)
        self.assert_counted(do("go", see("odd")), 4, 2)
        self.assert_counted(see("odd", do("go"), END), 4, 2)
        self.assert_counted(see("odd", END, do("go")), 4, 2)
        self.assert_counted(see("odd", do("go", do("lift")), see("top")), 7, 3)
        self.assert_counted(see("odd", see("top"), do("go", see("top", END, do("go")))), 9, 4)

    def test_the_greater_depth_of_both_sides(self):
        deep, flat = do("go", do("go", do("go"))), do("go")
        self.assert_counted(see("odd", deep, flat), 7, 4)
        self.assert_counted(see("odd", flat, deep), 7, 4)

    def test_the_same_tree_at_two_places_is_counted_twice(self):
        once = do("go", do("go"))
        self.assert_counted(see("odd", once, once), 7, 3)

    def test_names_are_no_matter(self):
        self.assert_counted(do("end", see("do", do("see"), END)), 5, 3)

    def test_two_hundred_and_forty_parts(self):
        self.assert_counted(do("go", full_tree(6)), 128, 7)
        self.assert_counted(see("odd", full_tree(6), do("go", see("odd", comb(23), full_tree(5)))), 240, 26)
        self.assert_counted(comb(119), 239, 119)
        self.assert_counted(do("go", comb(119)), 240, 120)

    def test_forty_deep(self):
        self.assert_counted(tree_of_row(["go"] * 39), 40, 39)
        self.assert_counted(tree_of_row(["go"] * 40), 41, 40)
        self.assert_counted(comb(39), 79, 39)

    def test_trees_as_deep_as_are_told(self):
        self.assert_counted(tree_of_row(["go"] * 260), 261, 260)
        self.assert_counted(comb(260), 521, 260)

    def test_trees_by_chance(self):
        chance = random.Random(32)
        for _ in range(300):
            tree = random_tree(chance, ["go", "jump"], ["odd", "top"], chance.randint(0, 9))
            self.assert_counted(tree, parts_by_calls(tree), depth_by_calls(tree))
        for tree in all_trees(["go"], ["odd"], 3):
            self.assert_counted(tree, parts_by_calls(tree), depth_by_calls(tree))


class TestHeads(unittest.TestCase):
    """What trees are taken apart to, and put together of."""

    def test_parts_stand_ahead_of_those_within_and_yes_ahead_of_no(self):
        tree = see("odd", do("go"), do("jump", see("top")))
        self.assertEqual(heads_down(tree), [("see", "odd"), ("do", "go"), END, ("do", "jump"), ("see", "top"), END, END])

    def test_put_together_again(self):
        for tree in all_trees(["go"], ["odd"], 3) + [comb(260), tree_of_row(["go"] * 260), full_tree(7)]:
            self.assertEqual(tree_of_heads(heads_down(tree)), tree)


class TestTreeGoes(unittest.TestCase):
    """[33]"""

    def assert_goes(self, well, crowd, tree, due):
        told = tree_goes(sample_house(well), crowd, tree)
        self.assertEqual(told, due)
        self.assertEqual(kinds_of(told), kinds_of(due))

    def test_an_end_that_goes_well(self):
        self.assert_goes([1], (1,), END, ("well", [(1,)]))
        self.assert_goes([0, 1, 2], (0, 2), END, ("well", [(0, 2)]))

    def test_an_end_where_the_wish_does_not_hold(self):
        self.assert_goes([1], (0,), END, ("ends", [], 0))
        self.assert_goes([1], (0, 1, 2, 3), END, ("ends", [], 0))
        self.assert_goes([0, 1], (0, 1, 2, 3), END, ("ends", [], 2))
        self.assert_goes([0, 1, 2], (1, 2, 3), END, ("ends", [], 3))

    def test_deeds(self):
        self.assert_goes([0], (1,), do("go"), ("well", [(0,)]))
        self.assert_goes([0, 1], (0, 1, 2), do("go"), ("well", [(0, 1)]))
        self.assert_goes([0], (3,), do("go", do("go", do("go"))), ("well", [(0,)]))
        self.assert_goes([0], (0, 3), do("go", do("go")), ("ends", ["go", "go"], 1))

    def test_chance_may_lead_to_more_worlds(self):
        self.assert_goes([1, 3], (0,), do("jump"), ("well", [(1, 3)]))
        self.assert_goes([1], (0,), do("jump"), ("ends", ["jump"], 3))

    def test_a_deed_that_gets_stuck(self):
        self.assert_goes([2], (2,), do("lift"), ("stuck", [], 2))
        self.assert_goes([0], (0, 1, 2, 3), do("lift"), ("stuck", [], 2))
        self.assert_goes([0], (0, 3), do("go", do("lift")), ("stuck", ["go"], 2))
        self.assert_goes([0], (0,), do("jump", do("jump", do("lift"))), ("stuck", ["jump", "jump"], 2))

    def test_a_look_that_gets_stuck(self):
        self.assert_goes([2], (1,), see("top"), ("stuck", [], 1))
        self.assert_goes([2], (0, 2, 3), see("top"), ("stuck", [], 0))
        self.assert_goes([2], (1, 2), do("jump", do("go", see("top"))), ("stuck", ["jump", "go"], 1))

    def test_a_look_with_both_sides(self):
        self.assert_goes([0, 1], (1, 2), see("odd", END, do("go")), ("well", [(1,), (1,)]))
        self.assert_goes([0, 1, 2, 3], (0, 1, 2, 3), see("odd"), ("well", [(1, 3), (0, 2)]))

    def test_the_way_has_looks_with_their_truth(self):
        self.assert_goes([0], (1, 2), see("odd"), ("ends", [("odd", True)], 1))
        self.assert_goes([1], (1, 2), see("odd"), ("ends", [("odd", False)], 2))
        self.assert_goes([2], (0, 1, 2, 3), see("odd", do("jump"), END), ("ends", [("odd", True), "jump"], 3))
        self.assert_goes([0, 1, 3], (0, 1, 2, 3), see("odd", see("odd"), do("go", do("lift", see("top")))),
                         ("ends", [("odd", False), "go", "lift", ("top", False)], 2))

    def test_stuck_on_either_side(self):
        self.assert_goes([1, 3], (0, 1, 2, 3), see("odd", END, do("lift")), ("stuck", [("odd", False)], 2))
        self.assert_goes([0, 2], (0, 1, 2, 3), see("odd", do("lift"), END), ("stuck", [("odd", True)], 3))

    def test_yes_goes_ahead_of_no(self):
        self.assert_goes([], (0, 1), see("odd"), ("ends", [("odd", True)], 1))
        self.assert_goes([], (2, 3), see("odd", do("lift"), do("lift")), ("stuck", [("odd", True)], 3))
        self.assert_goes([], (2, 3), see("odd", END, do("lift")), ("ends", [("odd", True)], 3))

    def test_a_part_ahead_goes_ahead_of_those_within(self):
        self.assert_goes([], (2,), do("lift", do("lift")), ("stuck", [], 2))
        self.assert_goes([], (0, 2), see("top", do("lift"), END), ("stuck", [], 0))

    def test_all_within_a_yes_goes_ahead_of_no(self):
        yes = do("go", see("odd", END, do("jump")))
        self.assert_goes([2], (0, 1, 3), see("odd", yes, do("lift", do("lift"))),
                         ("ends", [("odd", True), "go", ("odd", False), "jump"], 1))
        self.assert_goes([1, 2, 3], (0, 1, 3), see("odd", yes, do("lift", do("lift"))),
                         ("stuck", [("odd", False), "lift"], 2))

    def test_the_ends_in_the_order_of_the_walk(self):
        tree = see("odd", see("top"), see("odd", END, do("go")))
        self.assert_goes(range(4), (2, 3), tree, ("well", [(3,), (1,)]))
        tree = do("jump", see("odd", do("go"), do("jump")))
        self.assert_goes(range(4), (0, 1), tree, ("well", [(0, 2), (3,)]))

    def test_one_crowd_twice_where_two_ends_come_to_it(self):
        tree = see("odd", do("go"), END)
        self.assert_goes(range(4), (0, 1), tree, ("well", [(0,), (0,)]))
        self.assert_goes(range(4), (0, 1, 2, 3), see("odd", END, see("odd", END, do("jump", do("jump")))),
                         ("well", [(1, 3), (2, 3)]))

    def test_a_side_without_worlds_is_not_walked(self):
        self.assert_goes([0, 2], (0, 2), see("odd", do("lift", do("lift", do("lift"))), END), ("well", [(0, 2)]))
        self.assert_goes([1, 3], (1, 3), see("odd", END, see("top", do("lift"), see("top"))), ("well", [(1, 3)]))
        self.assert_goes([0], (1,), see("odd", do("go"), END), ("well", [(0,)]))

    def test_a_look_twice(self):
        self.assert_goes(range(4), (0, 1), see("odd", see("odd", END, do("lift", do("lift"))), END),
                         ("well", [(1,), (0,)]))

    def test_the_least_world(self):
        self.assert_goes([0], (0, 2, 3), END, ("ends", [], 2))
        self.assert_goes([3], (2, 3), see("odd", do("lift"), END), ("stuck", [("odd", True)], 3))
        self.assert_goes([], (1, 2, 3), do("jump"), ("ends", ["jump"], 2))

    def test_a_tree_of_a_row_goes_as_the_row(self):
        house = sample_house([2, 3])
        for many in range(4):
            for row in itertools.product(["go", "jump", "lift"], repeat=many):
                for crowd in ((0,), (1,), (0, 1), (0, 1, 2, 3), (2, 3)):
                    told = row_goes(house, crowd, list(row))
                    walked = tree_goes(house, crowd, tree_of_row(list(row)))
                    if told[0] == "well":
                        self.assertEqual(walked, ("well", told[1][-1:]))
                    elif told[0] == "stuck":
                        self.assertEqual(walked, ("stuck", list(row[:told[1]]), told[2]))
                    else:
                        self.assertEqual(walked, ("ends", list(row), told[1]))

    def test_trees_as_deep_as_are_told(self):
        house = sample_house([0, 3])
        self.assertEqual(tree_goes(house, (0, 3), tree_of_row(["go"] * 260)), ("well", [(0,)]))
        self.assertEqual(tree_goes(house, (1, 3), tree_of_row(["jump"] * 260)), ("well", [(3,)]))
        self.assertEqual(tree_goes(house, (0, 1), comb(260)), ("ends", [("odd", True)], 1))
        self.assertEqual(tree_goes(house, (0,), comb(260)), ("well", [(0,)]))
        self.assertEqual(tree_goes(house, (2,), comb(260)), ("ends", [("odd", False)] * 260, 2))

    def test_a_thousand_worlds(self):
        facts = list(LETTERS[:10])
        parts = bare_parts(facts)
        deeds = [("go", YES, [[(YES, "a", True)], [(YES, "a", False)]])]
        house = house_of(facts, deeds, [("peep", YES, fact("j"))], [0], parts[4])
        everything = tuple(range(1024))
        self.assertEqual(tree_goes(house, everything, see("peep", do("go"), END)),
                         ("well", [everything[512:], everything[:512]]))
        self.assertEqual(tree_goes(house, tuple(range(64)), do("go", see("peep"))), ("well", [tuple(range(64))]))

    def test_houses_by_a_rule_against_calls_within_calls(self):
        kinds = set()
        chance = random.Random(33)
        for maps, looks, _, well, parts in ruled_with_looks(120):
            house, deeds = house_of(*parts), [name for name, _ in maps]
            for _ in range(25):
                tree = random_tree(chance, deeds, ["peep", "feel"], 5)
                crowd = random_crowd(chance, parts[0])
                told = tree_goes(house, crowd, tree)
                self.assertEqual(told, tree_goes_by_maps(maps, looks, well, crowd, tree))
                kinds.add((told[0], len(told[1])))
        self.assertTrue({("well", 1), ("well", 2), ("stuck", 0), ("stuck", 2), ("ends", 0), ("ends", 3)} <= kinds, kinds)

    def test_houses_by_chance(self):
        chance = random.Random(34)
        for _ in range(150):
            parts = random_parts(chance)
            maps, well = maps_of(parts)
            looks, house = seen_by(parts), house_of(*parts)
            for _ in range(5):
                tree = random_tree(chance, [name for name, _ in maps], [look[0] for look in looks], 5)
                crowd = random_crowd(chance, parts[0])
                self.assertEqual(tree_goes(house, crowd, tree), tree_goes_by_maps(maps, looks, well, crowd, tree))


class TestTreeGoesRefused(unittest.TestCase):
    """The refusals of [33]."""

    def assert_refused(self, refusal, tree, crowd=(0, 1)):
        self.assertIs(refusal_of(tree_goes, sample_house([0]), crowd, tree), refusal)

    def test_no_world(self):
        for place, crowd in enumerate(NO_CROWDS):
            with self.subTest(place):
                self.assert_refused(NoWorld, END, crowd)
                self.assert_refused(NoWorld, do("go"), crowd)

    def test_no_world_goes_ahead_of_names(self):
        for place, crowd in enumerate(NO_CROWDS):
            with self.subTest(place):
                self.assert_refused(NoWorld, do("none"), crowd)
                self.assert_refused(NoWorld, see("none"), crowd)

    def test_no_deed(self):
        for name in ("", "none", "g", "goo", "GO", "a", "go ", "x" * 2000):
            self.assert_refused(NoDeed, do(name))
            self.assert_refused(NoDeed, do("go", do(name)))

    def test_no_look(self):
        for name in ("", "none", "od", "oddd", "ODD", "a", "odd ", "x" * 2000):
            self.assert_refused(NoLook, see(name))
            self.assert_refused(NoLook, do("go", see(name)))

    def test_a_looks_name_at_a_do_and_a_deeds_name_at_a_see(self):
        self.assert_refused(NoDeed, do("odd"))
        self.assert_refused(NoLook, see("go"))
        # Also where the name stands in its right place, too.
        self.assert_refused(NoDeed, see("odd", do("odd"), END))
        self.assert_refused(NoLook, do("go", see("go")))

    def test_the_first_in_the_order_they_stand(self):
        self.assert_refused(NoDeed, do("none", see("none")))
        self.assert_refused(NoLook, see("none", do("none"), do("none")))
        self.assert_refused(NoDeed, see("odd", do("none"), see("none")))
        self.assert_refused(NoLook, see("odd", see("none"), do("none")))

    def test_all_within_the_yes_tree_goes_ahead_of_the_no_tree(self):
        self.assert_refused(NoDeed, see("odd", do("go", do("go", see("odd", END, do("none")))), see("none")))
        self.assert_refused(NoLook, see("odd", do("go", do("go", see("odd", END, see("none")))), do("none")))

    def test_also_where_the_tree_gets_stuck_ahead_of_it(self):
        self.assert_refused(NoDeed, do("lift", do("lift", do("none"))), (2,))
        self.assert_refused(NoLook, see("top", see("none"), END), (0,))
        self.assert_refused(NoLook, see("odd", do("lift", do("lift")), see("none")), (1,))

    def test_also_where_no_crowd_comes_to_it(self):
        self.assert_refused(NoDeed, see("odd", do("none"), END), (0,))
        self.assert_refused(NoLook, see("odd", END, see("none")), (1,))

    def test_in_a_house_without_deeds_and_looks(self):
        house = house_of(*bare_parts(["a"]))
        self.assertIs(refusal_of(tree_goes, house, (0,), do("a")), NoDeed)
        self.assertIs(refusal_of(tree_goes, house, (0,), see("a")), NoLook)
        self.assertEqual(tree_goes(house, (0,), END), ("well", [(0,)]))


class TestRowsAndTrees(unittest.TestCase):
    """[37]"""

    def test_the_tree_of_a_row(self):
        self.assertEqual(tree_of_row([]), END)
        self.assertEqual(tree_of_row(["go"]), ("do", "go", ("end",)))
        self.assertEqual(tree_of_row(["go", "jump", "go"]), do("go", do("jump", do("go"))))

    def test_the_tree_of_a_row_of_a_hundred(self):
        row = [LETTERS[at * at % 12] for at in range(100)]
        tree = tree_of_row(row)
        self.assertEqual((tree_parts(tree), tree_depth(tree)), (101, 100))
        self.assertEqual(rows_of_tree(tree), [row])

    def test_names_are_no_matter(self):
        self.assertEqual(tree_of_row(["end", "see", "none"]), do("end", do("see", do("none"))))

    def test_the_rows_of_a_tree_without_looks(self):
        self.assertEqual(rows_of_tree(END), [[]])
        self.assertEqual(rows_of_tree(do("go")), [["go"]])
        self.assertEqual(rows_of_tree(do("go", do("jump"))), [["go", "jump"]])

    def test_the_rows_of_a_tree_with_looks_on_each_way(self):
        self.assertEqual(rows_of_tree(see("odd")), [[], []])
        tree = see("odd", do("go", see("top", do("jump"), END)), do("lift"))
        self.assertEqual(rows_of_tree(tree), [["go", "jump"], ["go"], ["lift"]])
        tree = do("go", see("odd", END, see("top", do("go"), do("jump", do("lift")))))
        self.assertEqual(rows_of_tree(tree), [["go"], ["go", "go"], ["go", "jump", "lift"]])

    def test_ways_that_no_crowd_comes_to_are_told_too(self):
        # Nothing is on the yes side of the second look's no side.
        tree = see("odd", do("go"), see("odd", do("jump"), do("lift")))
        self.assertEqual(rows_of_tree(tree), [["go"], ["jump"], ["lift"]])

    def test_one_row_twice(self):
        tree = see("odd", do("go"), do("go"))
        self.assertEqual(rows_of_tree(tree), [["go"], ["go"]])

    def test_all_small_trees_and_some_by_chance(self):
        chance = random.Random(37)
        trees = all_trees(["go", "jump"], ["odd"], 3)
        trees += [random_tree(chance, ["go", "jump"], ["odd", "top"], 8) for _ in range(200)]
        for tree in trees:
            self.assertEqual(rows_of_tree(tree), rows_by_calls(tree))

    def test_kinds(self):
        self.assertEqual(kinds_of(rows_of_tree(see("odd", do("go"), END))), kinds_of([["go"], []]))
        self.assertEqual(kinds_of(tree_of_row(["go"])), kinds_of(("do", "go", ("end",))))

    def test_trees_as_deep_as_are_told(self):
        self.assertEqual(rows_of_tree(tree_of_row(["go"] * 260)), [["go"] * 260])
        self.assertEqual(rows_of_tree(comb(260)), [[]] * 261)


class TestToldAndHandedIn(unittest.TestCase):
    """[2] and [3]"""

    def test_what_is_handed_in_stays(self):
        house, row = house_of(*safe_parts()), ["press", "push"]
        before = copy.deepcopy((house, row))
        tree = tree_of_row(row)
        tree_goes(house, (0, 1), tree)
        tree_goes(house, (0, 1), see("peep", tree, tree))
        rows_of_tree(see("peep", tree, tree))[0].append("spoilt")
        for crowd, bad in (((9,), tree), ((0,), do("none")), ((0,), see("none"))):
            self.assertIsNotNone(refusal_of(tree_goes, house, crowd, bad))
        self.assertEqual((house, row), before)
        self.assertEqual(tree, do("press", do("push")))

    def test_a_changed_row_changes_no_tree(self):
        row = ["go"]
        tree = tree_of_row(row)
        row.append("jump")
        self.assertEqual(tree, do("go"))

    def test_each_list_is_its_own(self):
        tree = see("odd", do("go"), do("go"))
        told, again = rows_of_tree(tree), rows_of_tree(tree)
        self.assertEqual(len({id(each) for each in lists_within([told, again])}), 7)
        told[0].append("spoilt")
        self.assertEqual(told[1], ["go"])
        self.assertEqual(rows_of_tree(tree), again)

    def test_tellings_of_tree_goes_share_no_list(self):
        house = sample_house([0])
        for crowd, tree in (((0, 1), see("odd", do("go"), END)), ((0, 1), do("jump")), ((2,), do("go", do("go", do("lift")))),
                            ((0,), do("go", do("lift", do("lift"))))):
            told, again = tree_goes(house, crowd, tree), tree_goes(house, crowd, tree)
            self.assertEqual(told, again)
            self.assertIsNot(told[1], again[1])
            told[1].append("spoilt")
            self.assertEqual(tree_goes(house, crowd, tree), again)


if __name__ == "__main__":
    unittest.main()
