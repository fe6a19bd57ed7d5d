"""Tests of sureplans.spare: points [2], [3], [38], [39] and [40]."""

import copy
import itertools
import random
import unittest

from sureplans.errors import NoDeed, NoLook, NoPlan, NoWorld
from sureplans.houses import house_of
from sureplans.rows import row_goes
from sureplans.spare import bare_tree, row_made_less, tree_made_less
from sureplans.sure import sure_row
from sureplans.trees import tree_depth, tree_goes, tree_of_row, tree_parts
from sureplans.treesure import sure_tree
from tests.samples import (
    all_trees, bare_parts, crowd_by_map, kinds_of, lists_within, mapped_parts, maps_of, random_crowd, random_parts,
    random_tree, refusal_of, ruled_with_looks, seen_by, sides_by_map, with_looks)

END = ("end",)
ANY = range(1024)
NO_CROWDS = [(), (1, 0), (1, 1), (-1,), (0, 8), (8,), (1 << 64,), (10 ** 5000,), (True,)]

# Over eight worlds: up leads on to 7, nap to where one is, back leads one down, fix is for 6 and 7 alone.
MAPS = [("up", {at: [min(at + 1, 7)] for at in range(8)}), ("nap", {at: [at] for at in range(8)}),
        ("back", {at: [max(at - 1, 0)] for at in range(8)}), ("fix", {6: [7], 7: [7]}), ("flip", {at: [7 - at] for at in ANY[:8]}),
        ("odds", {at: [at, at ^ 1] for at in range(8)})]
LOOKS = [("odd", range(8), [1, 3, 5, 7]), ("high", range(8), [4, 5, 6, 7]), ("last", [6, 7], [7]),
         ("same", range(8), range(8))]


def do(name, tree=END):
    return ("do", name, tree)


def see(name, yes=END, no=END):
    return ("see", name, yes, no)


def sample_house(well, maps=MAPS, looks=LOOKS):
    return house_of(*with_looks(mapped_parts(3, maps, [0], well), looks))


def row_less_by_trial(house, crowd, row):
    """What [38] tells, by trial of each row with one deed less."""
    for place in range(len(row)):
        shorter = row[:place] + row[place + 1:]
        if row_goes(house, crowd, shorter)[0] == "well":
            return row_less_by_trial(house, crowd, shorter)
    return row


def trees_less(tree):
    """All trees with one part put out, in the order of [39]."""
    if tree[0] == "do":
        yield tree[2]
        for within in trees_less(tree[2]):
            yield ("do", tree[1], within)
    elif tree[0] == "see":
        _, look, yes, no = tree
        yield yes
        yield no
        for within in trees_less(yes):
            yield ("see", look, within, no)
        for within in trees_less(no):
            yield ("see", look, yes, within)


def tree_less_by_trial(house, crowd, tree):
    """What [39] tells, by trial of each tree with one part put out."""
    for other in trees_less(tree):
        if tree_goes(house, crowd, other)[0] == "well":
            return tree_less_by_trial(house, crowd, other)
    return tree


def bare_by_calls(maps, looks, crowd, tree):
    """What [40] tells, by calls within calls."""
    if not crowd or tree[0] == "end":
        return END
    if tree[0] == "do":
        return ("do", tree[1], bare_by_calls(maps, looks, crowd_by_map(dict(maps)[tree[1]], crowd), tree[2]))
    yes, no = sides_by_map(next(look for look in looks if look[0] == tree[1]), crowd)
    if not yes:
        return bare_by_calls(maps, looks, no, tree[3])
    if not no:
        return bare_by_calls(maps, looks, yes, tree[2])
    return ("see", tree[1], bare_by_calls(maps, looks, yes, tree[2]), bare_by_calls(maps, looks, no, tree[3]))


class TestRowMadeLess(unittest.TestCase):
    """[38]"""

    def assert_less(self, well, crowd, row, due):
        house = sample_house(well)
        told = row_made_less(house, crowd, row)
        self.assertEqual(kinds_of(told), kinds_of(due))
        self.assertEqual(told, row_less_by_trial(house, crowd, row))
        self.assertEqual(row_goes(house, crowd, told)[0], "well")

    def test_a_row_of_no_deeds(self):
        self.assert_less([7], (7,), [], [])
        self.assert_less([0, 1, 7], (0, 1), [], [])

    def test_no_deed_is_spare(self):
        self.assert_less([7], (5,), ["up", "up"], ["up", "up"])
        self.assert_less([7], (0,), ["flip"], ["flip"])

    def test_a_spare_deed_at_each_place(self):
        self.assert_less([7], (5,), ["nap", "up", "up"], ["up", "up"])
        self.assert_less([7], (5,), ["up", "nap", "up"], ["up", "up"])
        self.assert_less([7], (5,), ["up", "up", "nap"], ["up", "up"])

    def test_all_deeds_are_spare(self):
        self.assert_less([7], (7,), ["up", "nap", "fix", "up"], [])
        self.assert_less(range(8), (3,), ["up", "back", "flip"], [])

    def test_the_first_spare_deed_goes_first(self):
        # Either up alone is spare, or fix; not both.
        self.assert_less([7], (6,), ["up", "fix"], ["fix"])
        self.assert_less([7], (6,), ["fix", "up"], ["up"])
        self.assert_less([6, 7], (5,), ["up", "up"], ["up"])
        self.assert_less([6, 7], (5,), ["up", "fix"], ["up"])

    def test_it_is_looked_at_from_its_beginning_again(self):
        maps = [("aim", {0: [1]}), ("set", {1: [2], 2: [2], 3: [3]}), ("undo", {2: [4], 3: [3]}),
                ("go", {0: [3], 2: [3], 4: [4], 3: [3]})]
        house = sample_house([3], maps)
        for many in range(5):
            for row in itertools.product([name for name, _ in maps], repeat=many):
                if row_goes(house, (0,), list(row))[0] == "well":
                    self.assertEqual(row_made_less(house, (0,), list(row)), row_less_by_trial(house, (0,), list(row)))

    def test_a_deed_that_was_not_spare_ahead_may_be_so_now(self):
        found = 0
        house = sample_house([6, 7])
        for many in (3, 4):
            for row in itertools.product(["up", "back", "flip", "nap"], repeat=many):
                row = list(row)
                for crowd in ((5,), (2,), (4, 5)):
                    if row_goes(house, crowd, row)[0] == "well":
                        told = row_made_less(house, crowd, row)
                        self.assertEqual(told, row_less_by_trial(house, crowd, row))
                        found += told != self.once_through(house, crowd, row)
        self.assertGreater(found, 10)

    def once_through(self, house, crowd, row):
        """The row without what is spare, looked at just once from its beginning to its end."""
        place = 0
        while place < len(row):
            shorter = row[:place] + row[place + 1:]
            if row_goes(house, crowd, shorter)[0] == "well":
                row = shorter
            else:
                place += 1
        return row

    def test_a_row_of_thirty_deeds(self):
        self.assert_less([7], (0,), ["up"] * 30, ["up"] * 7)
        self.assert_less([7], (0, 3), ["nap"] * 10 + ["up"] * 10 + ["nap"] * 10, ["up"] * 7)
        self.assert_less([0], (0,), ["up", "back"] * 15, [])
        self.assert_less([7], (0,), ["flip"] * 29 + ["nap"], ["flip"] * 29)

    def test_a_told_row_has_no_spare_deed(self):
        for maps, _, firsts, _, parts in ruled_with_looks(150):
            house = house_of(*parts)
            kind, row = sure_row(house)
            if kind == "row":
                self.assertEqual(row_made_less(house, tuple(firsts), row), row)

    def test_chance_and_crowds(self):
        self.assert_less([6, 7], (0,), ["odds", "flip", "odds"], ["flip"])
        self.assert_less([0, 1, 2], (0, 1), ["odds", "back", "odds"], [])

    def test_no_world(self):
        house = sample_house([7])
        for place, crowd in enumerate(NO_CROWDS):
            with self.subTest(place):
                self.assertIs(refusal_of(row_made_less, house, crowd, []), NoWorld)
                self.assertIs(refusal_of(row_made_less, house, crowd, ["none"]), NoWorld)
                self.assertIs(refusal_of(row_made_less, house, crowd, ["up", "fix", "none"]), NoWorld)

    def test_no_deed(self):
        house = sample_house([7])
        for name in ("", "none", "u", "upp", "UP", "a", "odd", "x" * 2000):
            for row in ([name], ["up", name], [name, "up"]):
                self.assertIs(refusal_of(row_made_less, house, (7,), row), NoDeed)

    def test_no_deed_goes_ahead_of_no_plan(self):
        house = sample_house([7])
        self.assertIs(refusal_of(row_made_less, house, (0,), ["fix", "none"]), NoDeed)
        self.assertIs(refusal_of(row_made_less, house, (0,), ["nap", "none"]), NoDeed)

    def test_no_plan_where_it_gets_stuck(self):
        house = sample_house(range(8))
        self.assertIs(refusal_of(row_made_less, house, (0,), ["fix"]), NoPlan)
        self.assertIs(refusal_of(row_made_less, house, (6, 7), ["up", "back", "back", "fix"]), NoPlan)

    def test_no_plan_where_the_wish_does_not_hold_at_its_end(self):
        house = sample_house([7])
        self.assertIs(refusal_of(row_made_less, house, (0,), []), NoPlan)
        self.assertIs(refusal_of(row_made_less, house, (6, 7), ["back", "up", "nap"]), NoPlan)
        # Though without its last deed it would go well.
        self.assertIs(refusal_of(row_made_less, house, (6,), ["up", "back"]), NoPlan)

    def test_houses_by_chance(self):
        chance = random.Random(38)
        kinds = []
        for _ in range(300):
            parts = random_parts(chance)
            house, names = house_of(*parts), [deed[0] for deed in parts[1]]
            for _ in range(6):
                row = [chance.choice(names) for _ in range(chance.randint(1, 6))] if names else []
                crowd = random_crowd(chance, parts[0])
                if row_goes(house, crowd, row)[0] == "well":
                    told = row_made_less(house, crowd, row)
                    self.assertEqual(told, row_less_by_trial(house, crowd, row))
                    kinds.append(len(row) - len(told))
                else:
                    kinds.append(NoPlan)
                    self.assertIs(refusal_of(row_made_less, house, crowd, row), NoPlan)
        self.assertTrue({NoPlan, 0, 1, 2, 3, 4} <= set(kinds))


class TestTreeMadeLess(unittest.TestCase):
    """[39]"""

    def assert_less(self, well, crowd, tree, due):
        house = sample_house(well)
        told = tree_made_less(house, crowd, tree)
        self.assertEqual(told, due)
        self.assertEqual(told, tree_less_by_trial(house, crowd, tree))

    def test_an_end(self):
        self.assert_less([7], (7,), END, END)

    def test_a_do_by_its_own_tree(self):
        self.assert_less([7], (7,), do("nap"), END)
        self.assert_less([7], (6,), do("nap", do("up")), do("up"))
        self.assert_less([7], (6,), do("up", do("nap")), do("up"))
        self.assert_less([7], (6,), do("up"), do("up"))

    def test_a_see_by_its_yes_tree(self):
        self.assert_less([7], (5, 7), see("odd", do("up", do("up")), END), do("up", do("up")))
        self.assert_less([6, 7], (6, 7), see("odd"), END)

    def test_a_see_by_its_no_tree_where_the_yes_tree_is_not_so(self):
        self.assert_less([7], (6, 7), see("odd", END, do("up")), do("up"))
        self.assert_less([7], (5, 6), see("odd", do("up", do("nap", do("up"))), do("up")), do("up", do("up")))

    def test_the_yes_tree_where_both_are_so(self):
        self.assert_less([7], (6, 7), see("odd", do("up"), do("fix")), do("up"))
        self.assert_less([7], (6, 7), see("odd", do("fix"), do("up")), do("fix"))

    def test_a_see_that_is_not_spare(self):
        tree = see("odd", do("up", do("up")), do("flip"))
        self.assert_less([7], (0, 5), tree, tree)

    def test_a_part_ahead_of_those_within_it(self):
        # The see is spare, and then what was within it may not be; the other way about, another tree would be told.
        self.assert_less([6, 7], (5, 6), see("odd", do("up", do("nap")), do("nap")), do("up"))
        self.assert_less([7], (7,), do("up", do("up")), END)

    def test_yes_goes_ahead_of_no(self):
        tree = see("odd", do("nap", do("up", do("up"))), do("nap", do("flip")))
        self.assert_less([7], (0, 5), tree, see("odd", do("up", do("up")), do("flip")))

    def test_parts_that_no_crowd_comes_to(self):
        self.assert_less([7], (6,), see("same", do("up"), do("fix", do("fix"))), do("up"))
        tree = see("high", see("odd", do("flip", do("flip")), do("up")), do("flip"))
        # From 0 and 6 the inner yes tree is never come to.
        self.assert_less([7], (0, 6), tree, see("high", do("up"), do("flip")))
        deep = see("odd", see("high", do("fix", do("fix")), see("last", do("fix"), do("nap"))), do("up"))
        self.assert_less([7], (6,), deep, do("fix"))

    def test_what_no_crowd_comes_to_is_made_less_too(self):
        # The look high is needed for 0 and 7, and odd within its no side is for none but 0.
        tree = see("high", END, see("odd", do("back"), do("flip")))
        self.assert_less([7], (0, 7), tree, see("high", END, do("flip")))

    def test_again_and_again_from_the_beginning(self):
        self.assert_less([7], (5,), do("nap", see("same", do("up", do("nap", do("up"))), END)), do("up", do("up")))

    def test_a_part_that_was_not_spare_ahead_may_be_so_now(self):
        found = 0
        house = sample_house([6, 7])
        for tree in all_trees(["up", "flip"], ["odd"], 3):
            for crowd in ((0, 6), (5,), (1, 6)):
                if tree_goes(house, crowd, tree)[0] == "well":
                    told = tree_made_less(house, crowd, tree)
                    self.assertEqual(told, tree_less_by_trial(house, crowd, tree))
                    found += told != tree
        self.assertGreater(found, 300)

    def test_a_told_tree_has_no_spare_part(self):
        for _, _, firsts, _, parts in ruled_with_looks(200):
            house = house_of(*parts)
            kind, tree = sure_tree(house)
            if kind == "tree":
                self.assertEqual(tree_made_less(house, tuple(firsts), tree), tree)

    def test_the_tree_of_a_row_as_the_row(self):
        house = sample_house([6, 7])
        for row in itertools.product(["up", "back", "flip", "nap"], repeat=4):
            if row_goes(house, (4, 5), list(row))[0] == "well":
                self.assertEqual(tree_made_less(house, (4, 5), tree_of_row(list(row))),
                                 tree_of_row(row_made_less(house, (4, 5), list(row))))

    def test_trees_of_many_parts(self):
        house = sample_house([7])
        tree = do("up", do("up", do("up")))
        for _ in range(5):
            tree = see("odd", tree, do("nap", tree))
        self.assertGreater(tree_parts(tree), 150)
        told = tree_made_less(house, (4, 5, 6, 7), tree)
        self.assertEqual(told, do("up", do("up", do("up"))))
        deep = tree_of_row(["nap"] * 17 + ["up"] * 3 + ["nap"] * 19)
        self.assertEqual((tree_parts(deep), tree_depth(deep)), (40, 39))
        self.assertEqual(tree_made_less(house, (4,), deep), tree_of_row(["up"] * 3))

    def test_trees_as_deep_as_are_told(self):
        house = sample_house([7])
        self.assertEqual(tree_made_less(house, (0,), tree_of_row(["up"] * 260)), tree_of_row(["up"] * 7))
        tree = do("flip")
        for _ in range(259):
            tree = see("same", tree, END)
        self.assertEqual(tree_made_less(house, (0,), tree), do("flip"))

    def test_no_world(self):
        for call in (tree_made_less, bare_tree):
            for place, crowd in enumerate(NO_CROWDS):
                with self.subTest(place):
                    for tree in (END, do("none"), see("none"), do("fix", do("fix"))):
                        self.assertIs(refusal_of(call, sample_house([7]), crowd, tree), NoWorld)

    def test_no_deed_and_no_look(self):
        for call in (tree_made_less, bare_tree):
            for tree, due in ((do("none"), NoDeed), (see("none"), NoLook), (do("odd"), NoDeed), (see("up"), NoLook),
                              (do("none", see("none")), NoDeed), (see("none", do("none"), END), NoLook),
                              (see("odd", see("none"), do("none")), NoLook), (see("odd", do("none"), see("none")), NoDeed),
                              (see("same", END, do("none")), NoDeed), (do("fix", see("none")), NoLook),
                              (do("", END), NoDeed), (see("x" * 2000), NoLook)):
                for crowd in ((0,), (7,)):
                    self.assertIs(refusal_of(call, sample_house([7]), crowd, tree), due)

    def test_no_plan(self):
        for call in (tree_made_less, bare_tree):
            for crowd, tree in (((0,), END), ((6, 7), END), ((0,), do("fix")), ((6, 7), do("back")),
                                ((0, 7), see("last")), ((6, 7), see("odd", do("up"), do("nap"))),
                                ((6, 7), see("odd", do("back"), do("up"))), ((7,), see("odd", do("up", do("flip")), END))):
                self.assertIs(refusal_of(call, sample_house([7]), crowd, tree), NoPlan)

    def test_houses_by_chance(self):
        chance = random.Random(39)
        kinds = []
        for maps, _, _, _, parts in ruled_with_looks(200):
            self.check(chance, house_of(*parts), [name for name, _ in maps], ["peep", "feel"], parts[0], kinds)
        for _ in range(200):
            parts = random_parts(chance)
            self.check(chance, house_of(*parts), [deed[0] for deed in parts[1]], [look[0] for look in parts[2]],
                       parts[0], kinds)
        self.assertTrue({NoPlan, 0, 1, 2, 3, 4, 5} <= set(kinds), set(kinds))

    def check(self, chance, house, deeds, looks, facts, kinds):
        for _ in range(8):
            tree, crowd = random_tree(chance, deeds, looks, 5), random_crowd(chance, facts)
            if tree_goes(house, crowd, tree)[0] == "well":
                told = tree_made_less(house, crowd, tree)
                self.assertEqual(told, tree_less_by_trial(house, crowd, tree))
                kinds.append(tree_parts(tree) - tree_parts(told))
            else:
                kinds.append(NoPlan)
                self.assertIs(refusal_of(tree_made_less, house, crowd, tree), NoPlan)


class TestBareTree(unittest.TestCase):
    """[40]"""

    def assert_bare(self, well, crowd, tree, due):
        house = sample_house(well)
        told = bare_tree(house, crowd, tree)
        self.assertEqual(told, due)
        self.assertEqual(tree_goes(house, crowd, told), tree_goes(house, crowd, tree))
        self.assertEqual(tree_goes(house, crowd, told)[0], "well")

    def test_an_end_and_deeds_stay(self):
        self.assert_bare([7], (7,), END, END)
        self.assert_bare([7], (6,), do("nap", do("up", do("nap"))), do("nap", do("up", do("nap"))))

    def test_a_see_that_both_sides_come_to_stays(self):
        self.assert_bare([6, 7], (6, 7), see("odd"), see("odd"))
        tree = see("odd", do("nap"), do("up", see("high", do("up"), END)))
        self.assert_bare([7], (6, 7), tree, see("odd", do("nap"), do("up", do("up"))))

    def test_one_side_alone_is_come_to(self):
        self.assert_bare([7], (7,), see("odd"), END)
        self.assert_bare([7], (6,), see("odd", do("flip"), do("up")), do("up"))
        self.assert_bare([7], (5,), see("odd", do("up", do("up")), do("flip")), do("up", do("up")))

    def test_what_is_put_there_is_bare_itself(self):
        tree = see("odd", see("high", see("last", END, do("nap")), do("flip")), do("up"))
        self.assert_bare([7], (7,), tree, END)
        self.assert_bare([7], (6, 7), tree, see("odd", END, do("up")))
        self.assert_bare([7], (0, 7), see("high", tree, do("flip", see("last"))), see("high", END, do("flip")))

    def test_what_no_crowd_comes_to_is_gone_whatever_stands_there(self):
        hidden = see("last", do("fix", see("odd")), see("last"))
        self.assert_bare([7], (6,), see("odd", hidden, do("up", see("odd", END, hidden))), do("up"))

    def test_the_same_look_twice(self):
        tree = see("odd", see("odd", END, hidden_tree()), see("odd", hidden_tree(), do("up")))
        self.assert_bare([7], (6, 7), tree, see("odd", END, do("up")))

    def test_a_crowd_may_bare_more_than_another(self):
        tree = see("odd", see("high"), see("high", do("nap"), do("back")))
        self.assert_bare(range(8), (0, 1, 4, 5), tree, tree)
        self.assert_bare(range(8), (0, 5), tree, see("odd", END, do("back")))
        self.assert_bare(range(8), (0, 4), tree, see("high", do("nap"), do("back")))
        self.assert_bare(range(8), (4,), tree, do("nap"))

    def test_spare_deeds_stay(self):
        self.assert_bare([7], (7,), see("odd", do("nap", do("up")), END), do("nap", do("up")))

    def test_chance_brings_both_sides_about(self):
        tree = do("odds", see("odd", END, do("up")))
        self.assert_bare([7], (6,), tree, tree)
        self.assert_bare([7], (7,), see("odd", tree, END), tree)

    def test_a_bare_tree_is_bare(self):
        chance = random.Random(41)
        house = sample_house(range(8))
        for _ in range(100):
            tree, crowd = random_tree(chance, ["up", "odds", "back"], ["odd", "high"], 6), (0, 3, 6)
            told = bare_tree(house, crowd, tree)
            self.assertEqual(bare_tree(house, crowd, told), told)

    def test_trees_as_deep_as_are_told(self):
        tree = do("flip")
        for _ in range(130):
            tree = see("same", do("nap", tree), END)
        self.assertEqual(bare_tree(sample_house([7]), (0,), tree), tree_of_row(["nap"] * 130 + ["flip"]))

    def test_houses_by_chance(self):
        chance = random.Random(400)
        changed = 0
        samples = [(maps, looks, parts) for maps, looks, _, _, parts in ruled_with_looks(250)]
        for _ in range(150):
            parts = random_parts(chance)
            samples.append((maps_of(parts)[0], seen_by(parts), parts))
        for maps, looks, parts in samples:
            house = house_of(*parts)
            for _ in range(8):
                tree = random_tree(chance, [name for name, _ in maps], [look[0] for look in looks], 5)
                crowd = random_crowd(chance, parts[0])
                goes = tree_goes(house, crowd, tree)
                if goes[0] == "well":
                    told = bare_tree(house, crowd, tree)
                    self.assertEqual(told, bare_by_calls(maps, looks, crowd, tree))
                    self.assertEqual(tree_goes(house, crowd, told), goes)
                    changed += told != tree
                else:
                    self.assertIs(refusal_of(bare_tree, house, crowd, tree), NoPlan)
        self.assertGreater(changed, 50)


def hidden_tree():
    """A tree that would get stuck wherever the look or the deed is asked of other worlds than 6 and 7."""
    return see("last", do("fix", do("back", do("back", do("fix")))), do("flip"))


class TestToldAndHandedIn(unittest.TestCase):
    """[2] and [3]"""

    def test_what_is_handed_in_stays(self):
        house, row = sample_house([7]), ["nap", "up", "nap"]
        tree = see("odd", do("nap"), do("up", do("nap")))
        before = copy.deepcopy((house, row, tree))
        row_made_less(house, (6,), row)
        tree_made_less(house, (6, 7), tree)
        bare_tree(house, (7,), tree)
        for crowd in ((9,), (0,)):
            self.assertIsNotNone(refusal_of(row_made_less, house, crowd, row))
            self.assertIsNotNone(refusal_of(tree_made_less, house, crowd, tree))
            self.assertIsNotNone(refusal_of(bare_tree, house, crowd, tree))
        self.assertEqual((house, row, tree), before)

    def test_the_list_told_is_new(self):
        house = sample_house([7])
        for row in (["up"], ["nap", "up"], ["up", "nap"]):
            told, again = row_made_less(house, (6,), row), row_made_less(house, (6,), row)
            self.assertEqual((told, again), (["up"], ["up"]))
            self.assertEqual(len({id(each) for each in lists_within([told, again, row])}), 4)
            told.append("spoilt")
            self.assertEqual(row_made_less(house, (6,), row), again)
        row = []
        self.assertIsNot(row_made_less(house, (7,), row), row)

    def test_asked_twice_the_same_is_told(self):
        house = sample_house([7])
        tree = see("odd", do("nap"), do("up", do("nap")))
        for call in (tree_made_less, bare_tree):
            self.assertEqual(call(house, (6, 7), tree), call(house, (6, 7), tree))
        self.assertEqual(bare_tree(house_of(*bare_parts(["a"])), (0, 1), END), END)


if __name__ == "__main__":
    unittest.main()
