"""Tests of sureplans.treesure: points [2], [3], [34], [35] and [36]."""

import copy
import itertools
import random
import unittest

from sureplans.errors import NoWorld, TooMany
from sureplans.houses import house_of
from sureplans.never import never_shows
from sureplans.sure import sure_row
from sureplans.trees import tree_depth, tree_goes, tree_of_row, tree_parts
from sureplans.treesure import least_depths, never_with_looks, sure_tree
from tests.samples import (
    LETTERS, NEVER, YES, all_trees, bare_parts, clock, crowds_with_looks, fact, kinds_of, least_by_maps,
    let_by_with_looks, lists_within, mapped_parts, maps_of, random_crowd, random_parts, refusal_of, ruled_with_looks,
    safe_parts, seen_by, two_counters, with_looks, with_part)

END = ("end",)
NO_CROWDS = [(), (1, 0), (1, 1), (-1,), (0, 4), (4,), (1 << 64,), (10 ** 5000,), (True,)]
ANY = range(1024)


def seeing_house(maps, looks, firsts, well, many=2):
    return house_of(*with_looks(mapped_parts(many, maps, firsts, well), looks))


def counters_house(many, others, well, looks=()):
    """Two worlds that count apart: many * others crowds without looks; a look adds just each world by itself."""
    return seeing_house(two_counters(many, others), looks, [0, 128], well, 8)


def chain_house(deep, well):
    """A house where a deed leads so far from 0, and a look tells the two worlds there from one another."""
    maps = [("on", {at: [at + 1] for at in range(deep)}), ("left", {deep: [500]}), ("right", {deep: [500]})]
    return seeing_house(maps, [], [0], well, 9)


def doubling_house(levels):
    """A house where chance leads to one of two worlds at each level, of which only a look tells, and ever again."""
    maps = [("one", {2 * at: [2 * at + 2, 2 * at + 3] for at in range(levels)}),
            ("two", {2 * at + 1: [2 * at + 2, 2 * at + 3] for at in range(levels)})]
    return seeing_house(maps, [("odd", ANY, range(1, 1024, 2))], [0, 1], [2 * levels, 2 * levels + 1], 10)


class TestSureTree(unittest.TestCase):
    """[34]"""

    def assert_tree(self, house, depth, parts):
        """A tree is told that goes well, so deep and of so many parts."""
        kind, tree = sure_tree(house)
        self.assertEqual(kind, "tree")
        self.assertEqual(tree_goes(house, tuple(house[3]), tree)[0], "well")
        self.assertEqual((tree_depth(tree), tree_parts(tree)), (depth, parts))
        return tree

    def assert_never(self, maps, looks, firsts, well, many=2):
        house = seeing_house(maps, looks, firsts, well, many)
        told = sure_tree(house)
        self.assertEqual(told[0], "never")
        self.assertEqual(kinds_of(told), kinds_of(("never", [tuple(crowd) for crowd in told[1]])))
        sets = [(name, set(need), set(seen)) for name, need, seen in looks]
        self.assertTrue(let_by_with_looks(maps, sets, set(well), firsts, told[1]))
        self.assertIs(never_with_looks(house, told[1]), True)
        return told[1]

    def test_the_wish_holds_already(self):
        self.assertEqual(sure_tree(house_of(*bare_parts(["a"]))), ("tree", END))
        house = seeing_house([("go", {1: [1], 2: [1]})], [("peep", ANY, [1])], [1, 2], [1, 2])
        self.assertEqual(kinds_of(sure_tree(house)), kinds_of(("tree", END)))

    def test_the_wish_holds_in_some_firsts_alone(self):
        house = seeing_house([("go", {2: [1]})], [("peep", ANY, [1])], [1, 2], [1])
        self.assertEqual(sure_tree(house), ("tree", ("see", "peep", END, ("do", "go", END))))

    def test_a_tree_where_there_is_a_row(self):
        maps = [("one", {0: [1]}), ("two", {1: [2]}), ("three", {2: [3]})]
        house = seeing_house(maps, [("peep", ANY, [1])], [0], [3])
        self.assertEqual(sure_tree(house), ("tree", tree_of_row(["one", "two", "three"])))

    def test_a_tree_without_looks_of_least_parts_where_looks_are_no_use(self):
        maps = [("go", {0: [3], 1: [3]})]
        house = seeing_house(maps, [("peep", ANY, [1])], [0, 1], [3])
        self.assertEqual(sure_tree(house), ("tree", ("do", "go", END)))

    def test_a_tree_where_there_is_no_row(self):
        maps = [("left", {0: [3]}), ("right", {1: [3]})]
        house = seeing_house(maps, [("peep", ANY, [1])], [0, 1], [3])
        self.assertEqual(sure_row(house)[0], "never")
        self.assertEqual(sure_tree(house), ("tree", ("see", "peep", ("do", "right", END), ("do", "left", END))))

    def test_a_tree_that_is_less_deep_than_the_row_is_long(self):
        maps = [("left", {0: [3]}), ("right", {1: [3]}), ("slow", {0: [0], 1: [4], 4: [5], 5: [0]})]
        house = seeing_house(maps, [("peep", ANY, [1])], [0, 1], [3], 3)
        self.assertEqual(sure_row(house), ("row", ["slow", "slow", "slow", "left"]))
        self.assert_tree(house, 2, 5)

    def test_a_look_that_must_be_looked_at_ahead_of_a_deed(self):
        # The deed lets the worlds run together for good.
        maps = [("left", {4: [7]}), ("right", {5: [7]}), ("go", {0: [4], 1: [5], 2: [4, 5], 3: [6]}), ("mix", {0: [6]})]
        house = seeing_house(maps, [("peep", [0, 1], [1])], [0, 1], [7], 3)
        tree = self.assert_tree(house, 3, 7)
        self.assertEqual(tree, ("see", "peep", ("do", "go", ("do", "right", END)), ("do", "go", ("do", "left", END))))

    def test_a_look_that_can_be_looked_at_only_behind_a_deed(self):
        maps = [("left", {4: [7]}), ("right", {5: [7]}), ("go", {0: [4], 1: [5]})]
        house = seeing_house(maps, [("peep", [4, 5], [5])], [0, 1], [7], 3)
        self.assert_tree(house, 3, 6)

    def test_a_look_that_must_be_looked_at_twice(self):
        maps = [("left", {0: [2, 3], 2: [7]}), ("right", {1: [2, 3], 3: [7]})]
        house = seeing_house(maps, [("odd", ANY, [1, 3, 5, 7])], [0, 1], [7], 3)
        tree = self.assert_tree(house, 4, 13)
        last = ("see", "odd", ("do", "right", END), ("do", "left", END))
        self.assertEqual(tree, ("see", "odd", ("do", "right", last), ("do", "left", last)))

    def test_looks_beside_one_another(self):
        maps = [(name, {at: [7]}) for at, name in enumerate(("nil", "one", "two", "three"))]
        looks = [("low", ANY, [1, 3]), ("high", ANY, [2, 3])]
        house = seeing_house(maps, looks, [0, 1, 2, 3], [7], 3)
        self.assert_tree(house, 3, 11)
        self.assertEqual(sure_row(house)[0], "never")

    def test_the_least_depth_goes_ahead_of_few_parts(self):
        # A row of three deeds has four parts; a look and a deed are five, but only two deep.
        maps = [("slow", {0: [4], 1: [4], 4: [5], 5: [7]}), ("left", {0: [7]}), ("right", {1: [7]})]
        self.assert_tree(seeing_house(maps, [], [0, 1], [7], 3), 3, 4)
        self.assert_tree(seeing_house(maps, [("peep", ANY, [1])], [0, 1], [7], 3), 2, 5)

    def test_of_the_least_depth_as_few_parts_as_any(self):
        # As deep as the look and its two deeds is a row of two, which has one part less.
        maps = [("left", {0: [7]}), ("right", {1: [7]}), ("slow", {0: [4], 1: [4], 4: [7]})]
        house = seeing_house(maps, [("peep", ANY, [1])], [0, 1], [7], 3)
        self.assert_tree(house, 2, 3)

    def test_a_side_may_be_deeper_than_it_must_be_where_that_saves_parts(self):
        # The side of 3 and 4 could end after a look and a deed, of five parts; by three deeds it has four.
        maps = [("climb", {0: [1], 1: [2], 2: [7]}), ("step", {3: [5], 4: [5], 5: [6], 6: [7]}),
                ("left", {3: [7]}), ("right", {4: [7]})]
        looks = [("far", ANY, [0]), ("tell", ANY, [3])]
        house = seeing_house(maps, looks, [0, 3, 4], [7], 3)
        self.assertEqual(least_depths(house, [(3, 4), (0,)]), [2, 3])
        self.assert_tree(house, 4, 9)

    def test_chance_is_told_apart_by_looks(self):
        maps = [("toss", {0: [1, 2]}), ("heads", {1: [3]}), ("tails", {2: [3]})]
        self.assert_tree(seeing_house(maps, [("peep", ANY, [1])], [0], [3]), 3, 6)
        self.assert_never(maps, [], [0], [3])

    def test_never_without_deeds_and_looks(self):
        self.assertEqual(self.assert_never([], [], [0, 1], [1]), [(0, 1)])

    def test_never_with_looks_that_are_no_use(self):
        self.assert_never([("go", {1: [3]})], [("peep", ANY, [1])], [0, 1], [3])
        self.assert_never([("go", {1: [3]})], [("peep", ANY, [])], [0, 1], [3])
        self.assert_never([("go", {0: [3]})], [("peep", [1], [1])], [0, 1], [3])

    def test_never_where_one_side_alone_is_hopeless(self):
        paper = self.assert_never([("go", {1: [3]}), ("stay", {0: [0], 1: [1]})], [("peep", ANY, [1])], [0, 1], [3])
        self.assertNotIn((1,), paper)
        self.assertIn((0,), paper)

    def test_never_where_chance_always_spoils_it(self):
        self.assert_never([("try", {0: [0, 3], 3: [0, 3]})], [("peep", [3], [3])], [0], [2])
        # To see that it went well is enough, but one may wait for it for ever.
        self.assert_never([("try", {0: [0, 3], 3: [3]})], [("peep", ANY, [3])], [0], [3])

    def test_just_two_thousand_crowds_by_deeds(self):
        paper = self.assert_never(two_counters(40, 50), [], [0, 128], [], 8)
        self.assertEqual(len(paper), 2000)
        self.assert_tree(counters_house(40, 50, [39, 128 + 49]), 88, 89)

    def test_two_thousand_and_one_crowds_by_deeds(self):
        for well in ([], [28, 128 + 68], [0, 128], [0, 1, 128], [1, 128]):
            self.assertIs(refusal_of(sure_tree, counters_house(29, 69, well)), TooMany)

    def test_just_two_thousand_crowds_by_deeds_and_sides(self):
        looks = [("high", ANY, range(128, 256))]
        paper = self.assert_never(two_counters(22, 86), looks, [0, 128], [], 8)
        self.assertEqual(len(paper), 2000)
        self.assertEqual(self.many_crowds(22, 86), 2000)
        self.assert_tree(counters_house(22, 86, [0, 128], looks), 0, 1)
        self.assert_tree(counters_house(22, 86, [1, 128], looks), 1, 2)

    def many_crowds(self, many, others):
        looks = [("high", set(range(256)), set(range(128, 256)))]
        return len(crowds_with_looks(two_counters(many, others), looks, (0, 128)))

    def test_two_thousand_and_one_crowds_by_deeds_and_sides(self):
        looks = [("high", ANY, range(128, 256))]
        for well in ([], [20, 128 + 89], [0, 128], [1, 128], range(256)):
            self.assertIs(refusal_of(sure_tree, counters_house(21, 90, well, looks)), TooMany)
        self.assertEqual(self.many_crowds(21, 90), 2001)

    def test_a_side_that_is_nothing_is_no_crowd(self):
        looks = [("all", ANY, ANY), ("none", ANY, [])]
        self.assert_tree(counters_house(40, 50, [39, 128 + 49], looks), 88, 89)

    def test_looks_that_cannot_be_looked_at_lead_to_no_crowds(self):
        looks = [("high", range(128), range(0, 128, 2))]
        self.assert_tree(counters_house(40, 50, [39, 128 + 49], looks), 88, 89)

    def test_crowds_behind_a_well_one_are_counted(self):
        # From well crowds on, nothing needs to be done, but it can be.
        maps = clock(29, 69)
        self.assertIs(refusal_of(sure_tree, seeing_house(maps, [], [0, 128], [0, 1, 128, 129], 9)), TooMany)
        maps = clock(16, 125)
        self.assertEqual(sure_tree(seeing_house(maps, [], [0, 128], [0, 128], 9)), ("tree", END))
        self.assert_tree(seeing_house(maps, [], [0, 128], [1, 129], 9), 1, 2)

    def test_a_tree_of_a_depth_of_two_hundred_and_sixty(self):
        house = chain_house(260, [260])
        self.assertEqual(sure_tree(house), ("tree", tree_of_row(["on"] * 260)))
        self.assert_tree(chain_house(260, range(259, 512)), 259, 260)

    def test_a_tree_of_very_many_parts(self):
        for levels in (1, 2, 5, 8):
            self.assert_tree(doubling_house(levels), 2 * levels, 4 * 2 ** levels - 3)
        # This one has more parts than can be walked, but is told all the same.
        kind, tree = sure_tree(doubling_house(130))
        self.assertEqual((kind, tree[:2]), ("tree", ("see", "odd")))

    def test_small_houses_by_a_rule_against_all_trees(self):
        seen = set()
        for maps, _, firsts, _, parts in ruled_with_looks(120):
            house, names = house_of(*parts), [name for name, _ in maps]
            kind, told = sure_tree(house)
            if kind == "tree" and tree_depth(told) > 2:
                continue
            within = [tree for tree in all_trees(names, ["peep", "feel"], 2)
                      if tree_goes(house, tuple(firsts), tree)[0] == "well"]
            if kind == "never":
                self.assertEqual(within, [])
            else:
                self.assertIn(told, within)
                self.assertEqual((tree_depth(told), tree_parts(told)),
                                 min((tree_depth(tree), tree_parts(tree)) for tree in within))
                seen.add((tree_depth(told), tree_parts(told)))
        self.assertTrue({(0, 1), (1, 2), (2, 3), (2, 4)} <= seen, seen)

    def test_houses_by_a_rule_and_by_chance_against_a_plain_search(self):
        samples = [(parts, maps, looks, well) for maps, looks, _, well, parts in ruled_with_looks(300)]
        chance = random.Random(340)
        for _ in range(150):
            parts = random_parts(chance)
            maps, well = maps_of(parts)
            samples.append((parts, maps, seen_by(parts), well))
        told = [self.check(*sample) for sample in samples]
        self.assertGreater(told.count("never"), 100)
        self.assertGreater(len(set(told)), 8, set(told))

    def check(self, parts, maps, looks, well):
        house, firsts = house_of(*parts), tuple(parts[3])
        kind, told = sure_tree(house)
        if kind == "never":
            self.assertTrue(let_by_with_looks(maps, looks, well, firsts, told))
            self.assertIsNone(least_by_maps(maps, looks, well, firsts, 6))
            return "never"
        self.assertEqual(tree_goes(house, firsts, told)[0], "well")
        counted = (tree_depth(told), tree_parts(told))
        self.assertEqual(counted, least_by_maps(maps, looks, well, firsts, 16))
        return counted


class TestLeastDepths(unittest.TestCase):
    """[35]"""

    MAPS = [("left", {0: [3]}), ("right", {1: [3]}), ("turn", {2: [0], 3: [3]})]
    LOOKS = [("odd", range(4), [1, 3])]

    def house(self, well=(3,)):
        return seeing_house(self.MAPS, self.LOOKS, [0], well)

    def test_no_crowds(self):
        self.assertEqual(least_depths(self.house(), []), [])

    def test_one_crowd(self):
        for crowd, due in (((3,), 0), ((0,), 1), ((1,), 1), ((2,), 2), ((0, 1), 2), ((1, 2), 3), ((0, 2), None),
                           ((2, 3), 3), ((0, 1, 2, 3), None), ((1, 2, 3), None)):
            self.assertEqual(least_depths(self.house(), [crowd]), [due], crowd)

    def test_many_crowds_in_their_order(self):
        least = {(3,): 0, (1,): 1, (0, 1): 2, (1, 2): 3, (0, 2): None}
        for order in itertools.permutations(least):
            self.assertEqual(least_depths(self.house(), list(order)), [least[crowd] for crowd in order])

    def test_one_crowd_twice(self):
        self.assertEqual(least_depths(self.house(), [(0, 1), (3,), (0, 1), (0, 1)]), [2, 0, 2, 2])

    def test_none_among_numbers(self):
        told = least_depths(self.house(), [(2,), (0, 2), (3,), (0, 2), (1, 2)])
        self.assertEqual(kinds_of(told), kinds_of([2, None, 0, None, 3]))

    def test_the_firsts_are_no_matter(self):
        for firsts in ([0], [3], [0, 2], [0, 1, 2, 3]):
            house = seeing_house(self.MAPS, self.LOOKS, firsts, [3])
            self.assertEqual(least_depths(house, [(0, 1), (0, 2)]), [2, None])

    def test_it_is_the_depth_of_the_tree_of_a_house_with_these_firsts(self):
        for maps, looks, _, well, parts in ruled_with_looks(60):
            crowds = [crowd for many in (1, 2, 3, 4) for crowd in itertools.combinations(range(4), many)]
            told = least_depths(house_of(*parts), crowds)
            for crowd, depth in zip(crowds, told):
                kind, shown = sure_tree(house_of(*with_part(parts, 3, list(crowd))))
                self.assertEqual(depth, tree_depth(shown) if kind == "tree" else None)
                due = least_by_maps(maps, looks, well, crowd, 8)
                self.assertEqual(depth, due if due is None else due[0])

    def test_depths_by_chance(self):
        chance = random.Random(35)
        for _ in range(100):
            parts = random_parts(chance)
            maps, well = maps_of(parts)
            crowds = [random_crowd(chance, parts[0]) for _ in range(chance.randint(1, 5))]
            told = least_depths(house_of(*parts), crowds)
            for crowd, depth in zip(crowds, told):
                due = least_by_maps(maps, seen_by(parts), well, crowd, 8)
                self.assertEqual(depth, due if due is None else due[0])

    def test_each_crowd_is_counted_by_itself(self):
        # From these crowds 2000 can be come to, from each alone, and together far more.
        house = counters_house(100, 100, [99, 128 + 99])
        self.assertEqual(least_depths(house, [(60, 128 + 50), (50, 128 + 60), (99, 227), (80, 128)]),
                         [39 + 49, 49 + 39, 0, 19 + 99])
        self.assertEqual(least_depths(house, [(at,) for at in range(100)]), [99 - at for at in range(100)])
        looks = [("high", ANY, range(128, 256))]
        house = counters_house(100, 100, [99, 128 + 99], looks)
        self.assertEqual(least_depths(house, [(99 - 21, 128 + 99 - 85)]), [86])

    def test_just_two_thousand_crowds_and_one_more(self):
        house = counters_house(100, 100, [])
        self.assertEqual(least_depths(house, [(60, 128 + 50)]), [None])
        self.assertIs(refusal_of(least_depths, house, [(71, 128 + 31)]), TooMany)
        self.assertIs(refusal_of(least_depths, house, [(60, 128 + 50), (71, 128 + 31), (99, 128)]), TooMany)
        house = counters_house(100, 100, range(256), [("high", ANY, range(128, 256))])
        self.assertEqual(least_depths(house, [(78, 128 + 14)]), [0])
        self.assertIs(refusal_of(least_depths, house, [(79, 128 + 10)]), TooMany)

    def test_no_world(self):
        house = self.house()
        for place, crowd in enumerate(NO_CROWDS):
            with self.subTest(place):
                self.assertIs(refusal_of(least_depths, house, [crowd]), NoWorld)
                self.assertIs(refusal_of(least_depths, house, [(0,), (0, 1), crowd]), NoWorld)

    def test_no_world_goes_ahead_of_too_many(self):
        house = counters_house(100, 100, [])
        self.assertIs(refusal_of(least_depths, house, [(0, 128)]), TooMany)
        self.assertIs(refusal_of(least_depths, house, [(0, 128), (0, 256)]), NoWorld)
        self.assertIs(refusal_of(least_depths, house, [(), (0, 128)]), NoWorld)


class TestNeverWithLooks(unittest.TestCase):
    """[36]"""

    MAPS = [("go", {1: [3]}), ("stay", {0: [0], 1: [1], 2: [2], 3: [3]})]
    LOOKS = [("odd", range(4), [1, 3])]

    def assert_shows(self, due, paper, maps=None, looks=None, firsts=(0, 1), well=(3,)):
        maps, looks = maps or self.MAPS, self.LOOKS if looks is None else looks
        house = seeing_house(maps, looks, firsts, well)
        self.assertIs(never_with_looks(house, paper), due)
        sets = [(name, set(need), set(seen)) for name, need, seen in looks]
        if not any(crowd in NO_CROWDS for crowd in paper):
            self.assertEqual(let_by_with_looks(maps, sets, set(well), firsts, paper), due)

    def test_let_by(self):
        self.assert_shows(True, [(0,)])
        self.assert_shows(True, [(0, 1), (0,)])
        self.assert_shows(True, [(0, 2), (0,), (0,)])

    def test_no_crowd_of_it_lies_within_the_firsts(self):
        self.assert_shows(False, [(2,)])
        self.assert_shows(True, [(2,)], firsts=(1, 2))
        self.assert_shows(False, [(0,)], firsts=(1, 2))
        self.assert_shows(False, [(0, 1, 2), (2,)])

    def test_the_wish_holds_in_one_of_its_crowds(self):
        self.assert_shows(False, [(0,), (3,)])
        self.assert_shows(False, [(0,)], well=(0, 3))
        self.assert_shows(True, [(0,), (0, 3)])

    def test_a_deed_leads_out_of_it(self):
        self.assert_shows(False, [(1,)], looks=[])
        self.assert_shows(False, [(0,), (1,)], maps=[("go", {1: [3]}), ("flip", {0: [2]})])
        self.assert_shows(True, [(0,), (2,)], maps=[("go", {1: [3]}), ("flip", {0: [2], 2: [0]})])

    def test_a_look_leads_out_of_it(self):
        self.assert_shows(True, [(0, 1)], looks=[])
        self.assert_shows(False, [(0, 1)])
        self.assert_shows(True, [(0, 1), (0,)])
        self.assert_shows(False, [(0, 1, 2)], firsts=(0, 1, 2))
        self.assert_shows(True, [(0, 1, 2), (0, 2)], firsts=(0, 1, 2))
        self.assert_shows(True, [(0, 1, 2), (2,)], firsts=(0, 1, 2))

    def test_either_side_is_enough(self):
        maps = [("stay", {at: [at] for at in range(4)})]
        for sides in ([(0,)], [(1,)], [(0,), (1,)]):
            self.assert_shows(True, [(0, 1)] + sides, maps=maps)
        self.assert_shows(False, [(0, 1), (2,), (2, 3)], maps=maps)

    def test_a_look_whose_need_does_not_hold_asks_nothing(self):
        self.assert_shows(True, [(0, 1)], looks=[("odd", [0], [1, 3])])
        self.assert_shows(True, [(0, 1)], looks=[("odd", [], [1, 3])])
        self.assert_shows(False, [(0, 1)], looks=[("odd", [0, 1], [1, 3])])

    def test_a_look_of_which_one_side_is_nothing(self):
        self.assert_shows(True, [(0, 1)], looks=[("all", range(4), range(4))])
        self.assert_shows(True, [(0, 1)], looks=[("none", range(4), [])])
        self.assert_shows(True, [(0, 1)], looks=[("high", range(4), [2, 3])])
        self.assert_shows(True, [(0,)], looks=[("odd", range(4), [1, 3]), ("even", range(4), [0, 2])])

    def test_each_look_must_be_answered(self):
        looks = [("odd", range(4), [1, 3]), ("high", range(4), [2, 3])]
        stay = [("stay", {at: [at] for at in range(4)})]
        self.assert_shows(False, [(0, 1, 2, 3), (0, 2)], maps=stay, looks=looks, firsts=range(4), well=())
        self.assert_shows(False, [(0, 1, 2, 3), (0, 1)], maps=stay, looks=looks, firsts=range(4), well=())
        self.assert_shows(True, [(0, 1, 2, 3), (0, 2), (2,)], maps=stay, looks=looks, firsts=range(4), well=())
        self.assert_shows(True, [(0, 1, 2, 3), (0,)], maps=stay, looks=looks, firsts=range(4), well=())

    def test_a_paper_of_no_crowds(self):
        self.assert_shows(False, [])

    def test_what_is_no_crowd(self):
        for place, crowd in enumerate(NO_CROWDS):
            with self.subTest(place):
                self.assert_shows(False, [crowd])
                self.assert_shows(False, [crowd, (0,)])
                self.assert_shows(False, [(0,), (0, 1), crowd])

    def test_a_told_paper_of_no_looks_need_not_be_let_by(self):
        house = seeing_house([("left", {0: [3]}), ("right", {1: [3]})], self.LOOKS, [0, 1], [3])
        kind, paper = sure_row(house)
        self.assertEqual((kind, never_shows(house, paper), never_with_looks(house, paper)), ("never", True, False))

    def test_all_papers_of_a_few_crowds_by_a_rule(self):
        some = [(0,), (1,), (3,), (0, 1), (1, 2), (2, 3), (0, 1, 2), (0, 1, 2, 3)]
        papers = [list(paper) for many in range(4) for paper in itertools.combinations(some, many)]
        let_by = 0
        for maps, looks, firsts, well, parts in ruled_with_looks(60):
            house = house_of(*parts)
            for paper in papers:
                due = let_by_with_looks(maps, looks, well, firsts, paper)
                self.assertIs(never_with_looks(house, paper), due)
                let_by += due
                # A paper of never with looks is one of never, too.
                self.assertTrue(not due or never_shows(house, paper))
        self.assertGreater(let_by, 100)

    def test_papers_by_chance(self):
        chance = random.Random(36)
        let_by = 0
        for _ in range(200):
            parts = random_parts(chance)
            maps, well = maps_of(parts)
            for _ in range(10):
                paper = [random_crowd(chance, parts[0]) for _ in range(chance.randint(1, 5))]
                due = let_by_with_looks(maps, seen_by(parts), well, parts[3], paper)
                self.assertIs(never_with_looks(house_of(*parts), paper), due)
                let_by += due
        self.assertGreater(let_by, 50)

    def test_a_told_paper_made_longer_or_shorter(self):
        for maps, looks, firsts, well, parts in ruled_with_looks(100):
            house = house_of(*parts)
            kind, paper = sure_tree(house)
            if kind == "never":
                for place in range(len(paper)):
                    for other in (paper[:place] + paper[place + 1:], paper + [paper[place]], [(3,)] + paper):
                        self.assertIs(never_with_looks(house, other),
                                      let_by_with_looks(maps, looks, well, firsts, other))


class TestToldAndHandedIn(unittest.TestCase):
    """[2] and [3]"""

    def houses(self):
        yield house_of(*safe_parts())
        yield seeing_house([("left", {0: [3]}), ("right", {1: [3]})], [("peep", ANY, [1])], [0, 1], [3])

    def test_what_is_handed_in_stays(self):
        for house in self.houses():
            crowds, paper = [(0, 1), (0,)], [(0, 1), (0,), (2,)]
            before = copy.deepcopy((house, crowds, paper))
            sure_tree(house)
            least_depths(house, crowds)
            never_with_looks(house, paper)
            self.assertIs(refusal_of(least_depths, house, [*crowds, (9,)]), NoWorld)
            self.assertEqual((house, crowds, paper), before)

    def test_asked_twice_the_same_is_told_and_no_list_is_shared(self):
        for house in self.houses():
            for call, arguments in ((sure_tree, ()), (least_depths, ([(0, 1), (0,), (0, 1)],))):
                told, again = call(house, *arguments), call(house, *arguments)
                self.assertEqual(told, again)
                lists = lists_within([told, again, house, list(arguments)])
                self.assertEqual(len({id(each) for each in lists}), len(lists))
                for each in lists_within(told):
                    each.append("spoilt")
                self.assertEqual(call(house, *arguments), again)

    def test_a_changed_house_is_another_house(self):
        house = list(self.houses())[1]
        self.assertEqual(sure_tree(house)[0], "tree")
        house[2].clear()
        self.assertEqual(sure_tree(house)[0], "never")
        house[1].clear()
        self.assertEqual(least_depths(house, [(0,), (3,)]), [None, 0])

    def test_refused_twice_and_answered_after(self):
        house = counters_house(100, 100, [99, 227])
        for _ in range(2):
            self.assertIs(refusal_of(sure_tree, house), TooMany)
            self.assertEqual(least_depths(house, [(99, 226)]), [1])
            self.assertIs(refusal_of(least_depths, house, [(99, 226), (0, 128)]), TooMany)

    def test_ten_facts(self):
        facts = list(LETTERS[:10])
        deeds = [("go" + name, ("not", fact(name)), [[(YES, name, True)]]) for name in facts[:2]]
        looks = [("see" + name, YES, fact(name)) for name in facts[:2]]
        wish = ("both", fact("a"), fact("b"))
        house = house_of(facts, deeds, looks, list(range(64)), wish)
        kind, tree = sure_tree(house)
        self.assertEqual((kind, tree_depth(tree), tree_parts(tree)), ("tree", 4, 10))
        self.assertEqual(tree_goes(house, tuple(range(64)), tree)[0], "well")
        house = house_of(facts, deeds, looks, list(range(64)), NEVER)
        kind, paper = sure_tree(house)
        self.assertEqual((kind, never_with_looks(house, paper)), ("never", True))


if __name__ == "__main__":
    unittest.main()
