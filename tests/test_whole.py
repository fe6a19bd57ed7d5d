"""Tests of the promise of the whole [4], and that all is answered soon at the limits that [2] names."""

import itertools
import random
import re
import time
import unittest

from sureplans.apart import good_worlds, parting_row
from sureplans.desk import Desk
from sureplans.errors import NoPlan, PlanError, TooMany
from sureplans.houses import house_of
from sureplans.looking import looks_in, sides_of
from sureplans.never import is_hopeless, less_paper, never_shows
from sureplans.rows import known_in, may_run, row_goes
from sureplans.spare import bare_tree, row_made_less, tree_made_less
from sureplans.sure import how_many_rows, least_deeds, sure_row
from sureplans.texts import read_house, read_row, read_tree, show_house, show_row, show_tree
from sureplans.together import house_kept_to, paper_for_both, row_for_both, side_by_side
from sureplans.trees import rows_of_tree, tree_depth, tree_goes, tree_of_row, tree_parts
from sureplans.treesure import least_depths, never_with_looks, sure_tree
from tests.samples import (
    LETTERS, NEVER, YES, all_trees, fact, mapped_parts, random_condition, random_tree, refusal_of,
    ruled_samples, ruled_with_looks, two_counters, with_looks)

# What "within seconds" means here, for one call on a slow machine.
SECONDS = 30


class TestTheWhole(unittest.TestCase):
    """[4]"""

    def test_just_one_is_told_of_each_house(self):
        told = []
        for maps, firsts, well in ruled_samples(250):
            house = house_of(*mapped_parts(2, maps, firsts, well))
            names = [name for name, _ in maps]
            kind, shown = sure_row(house)
            told.append((kind, len(shown)))
            if kind == "row":
                self.check_row(house, names, tuple(firsts), shown)
            else:
                self.assertEqual(kind, "never")
                self.check_never(house, names, tuple(firsts), shown)
        self.assertTrue({("row", 0), ("row", 1), ("row", 2), ("never", 1), ("never", 2)} <= set(told))

    def check_row(self, house, names, firsts, row):
        self.assertEqual(row_goes(house, firsts, row)[0], "well")
        self.assertLess(len(row), 7)
        for many in range(len(row)):
            for shorter in itertools.product(names, repeat=many):
                self.assertNotEqual(row_goes(house, firsts, list(shorter))[0], "well")

    def check_never(self, house, names, firsts, paper):
        self.assertIs(never_shows(house, paper), True)
        self.assertEqual(how_many_rows(house), 0)
        for many in range(6):
            for row in itertools.product(names, repeat=many):
                self.assertNotEqual(row_goes(house, firsts, list(row))[0], "well")

    def test_where_a_row_is_told_no_paper_is_let_by(self):
        crowds = [crowd for many in (1, 2, 3, 4) for crowd in itertools.combinations(range(4), many)]
        papers = [list(paper) for many in (1, 2) for paper in itertools.combinations(crowds, many)]
        let_by = 0
        for maps, firsts, well in ruled_samples(40):
            house = house_of(*mapped_parts(2, maps, firsts, well))
            kind, _ = sure_row(house)
            for paper in papers:
                if never_shows(house, paper):
                    let_by += 1
                    self.assertEqual(kind, "never")
        self.assertGreater(let_by, 100)

    def test_too_many_crowds(self):
        house = house_of(*mapped_parts(8, two_counters(29, 69), [0, 128], []))
        self.assertIs(refusal_of(sure_row, house), TooMany)

    def test_a_paper_may_show_it_where_too_many_crowds_are_found(self):
        # One world that never changes is enough for the paper, though the search finds too many.
        house = house_of(*mapped_parts(8, [(name, {**behind, 255: [255]}) for name, behind in two_counters(29, 69)],
                                       [0, 128, 255], []))
        self.assertIs(refusal_of(sure_row, house), TooMany)
        self.assertIs(never_shows(house, [(255,)]), True)
        self.assertIs(is_hopeless(house, [(255,)], (0, 255)), True)


class TestTheWholeWithLooks(unittest.TestCase):
    """[4], of trees with looks."""

    def test_just_one_is_told_of_each_house(self):
        told = []
        for maps, _, firsts, _, parts in ruled_with_looks(160):
            house, names, crowd = house_of(*parts), [name for name, _ in maps], tuple(firsts)
            kind, shown = sure_tree(house)
            if kind == "tree":
                told.append((kind, tree_depth(shown)))
                self.assertEqual(tree_goes(house, crowd, shown)[0], "well")
                self.check_none(house, names, crowd, tree_depth(shown) - 1)
                self.assertEqual(least_depths(house, [crowd]), [tree_depth(shown)])
            else:
                told.append((kind, len(shown)))
                self.check_never(house, names, crowd, shown)
        self.assertTrue({("tree", 0), ("tree", 1), ("tree", 2), ("never", 1), ("never", 2)} <= set(told), set(told))

    def check_none(self, house, names, crowd, depth):
        """No tree of at most this depth, or of as much of it as can be tried, goes well."""
        for tree in all_trees(names, ["peep", "feel"], min(depth, 2)) if depth >= 0 else []:
            self.assertNotEqual(tree_goes(house, crowd, tree)[0], "well")

    def check_never(self, house, names, crowd, paper):
        self.assertIs(never_with_looks(house, paper), True)
        self.assertIs(never_shows(house, paper), True)
        self.assertEqual(least_depths(house, [crowd]), [None])
        # Then no row goes well, either.
        self.assertEqual((sure_row(house)[0], how_many_rows(house)), ("never", 0))
        self.check_none(house, names, crowd, 2)

    def test_no_tree_three_deep_goes_well_where_the_paper_is_told(self):
        tried = 0
        for maps, _, firsts, _, parts in ruled_with_looks(60):
            house = house_of(*parts)
            if sure_tree(house)[0] == "never" and tried < 8:
                tried += 1
                for tree in all_trees([name for name, _ in maps], ["peep", "feel"], 3):
                    self.assertNotEqual(tree_goes(house, tuple(firsts), tree)[0], "well")
        self.assertEqual(tried, 8)

    def test_a_tree_is_no_deeper_than_a_row_is_long(self):
        told = []
        for _, _, firsts, _, parts in ruled_with_looks(300):
            house = house_of(*parts)
            (kind, row), (other, tree) = sure_row(house), sure_tree(house)
            told.append((kind, other))
            if kind == "row":
                self.assertEqual(other, "tree")
                self.assertLessEqual(tree_depth(tree), len(row))
                self.assertEqual(tree_goes(house, tuple(firsts), tree_of_row(row))[0], "well")
        self.assertEqual(set(told), {("row", "tree"), ("never", "tree"), ("never", "never")})

    def test_whoever_made_the_paper_no_tree_is_told_beside_it(self):
        crowds = [crowd for many in (1, 2, 3, 4) for crowd in itertools.combinations(range(4), many)]
        papers = [list(paper) for many in (1, 2) for paper in itertools.combinations(crowds, many)]
        let_by = 0
        for _, _, _, _, parts in ruled_with_looks(60):
            house = house_of(*parts)
            kind, _ = sure_tree(house)
            for paper in papers:
                if never_with_looks(house, paper):
                    let_by += 1
                    self.assertEqual(kind, "never")
                    self.assertIs(never_shows(house, paper), True)
        self.assertGreater(let_by, 100)

    def test_too_many_crowds(self):
        house = house_of(*mapped_parts(8, two_counters(29, 69), [0, 128], [0, 128]))
        self.assertIs(refusal_of(sure_tree, house), TooMany)
        # The row of no deeds is told, for it looks no further.
        self.assertEqual(sure_row(house), ("row", []))

    def test_a_paper_may_show_it_where_too_many_crowds_are_come_to(self):
        maps = [(name, {**behind, 255: [255]}) for name, behind in two_counters(29, 69)]
        house = house_of(*with_looks(mapped_parts(8, maps, [0, 128, 255], []), [("peep", range(256), [0, 128])]))
        self.assertIs(refusal_of(sure_tree, house), TooMany)
        self.assertIs(never_with_looks(house, [(255,)]), True)


def called_otherwise(parts):
    """The five with a z behind each name."""
    return eval(re.sub("'((?!yes|fact|not|both|either)[a-z]+)'", r"'\1z'", repr(parts)))


class TestTheWholeTogether(unittest.TestCase):
    """[4], of rows and trees, spare parts, houses side by side, texts and the desk."""

    def test_all_is_told_of_each_house_as_the_points_tell_it_together(self):
        told = []
        for maps, _, firsts, _, parts in ruled_with_looks(150):
            house, crowd = house_of(*parts), tuple(firsts)
            (kind, shown), (other, deep) = sure_row(house), sure_tree(house)
            told.append((kind, other))
            if kind == "row":
                self.check_row(house, crowd, shown, [name for name, _ in maps])
            else:
                self.assertIs(never_shows(house, less_paper(house, shown)), True)
            if other == "tree":
                self.check_tree(house, crowd, deep)
            else:
                self.assertEqual((kind, never_with_looks(house, deep), never_shows(house, deep)), ("never", True, True))
            self.check_desk(house, kind, shown, other, deep)
        self.assertEqual(set(told), {("row", "tree"), ("never", "tree"), ("never", "never")})

    def check_row(self, house, crowd, row, names):
        """A told row has no spare deed, and a longer one that goes well is made less to a row without any."""
        self.assertEqual(row_made_less(house, crowd, row), row)
        self.assertEqual(read_row(show_row(row)), row)
        for name in names:
            for place in range(len(row) + 1):
                longer = row[:place] + [name] + row[place:]
                if row_goes(house, crowd, longer)[0] == "well":
                    less = row_made_less(house, crowd, longer)
                    self.assertGreaterEqual(len(less), len(row))
                    for at in range(len(less)):
                        self.assertNotEqual(row_goes(house, crowd, less[:at] + less[at + 1:])[0], "well")

    def check_tree(self, house, crowd, tree):
        """A told tree has no spare part, and is bare; what is put ahead of it goes again."""
        self.assertEqual(tree_made_less(house, crowd, tree), tree)
        self.assertEqual(bare_tree(house, crowd, tree), tree)
        self.assertEqual(read_tree(show_tree(tree)), tree)
        for name, _, _ in house[2]:
            longer = ("see", name, tree, tree)
            if tree_goes(house, crowd, longer)[0] == "well":
                self.assertEqual(tree_made_less(house, crowd, longer), tree)
                self.assertEqual(tree_goes(house, crowd, bare_tree(house, crowd, longer)), tree_goes(house, crowd, longer))

    def check_desk(self, house, kind, shown, other, deep):
        desk = Desk()
        for row in show_house(house).split("\n"):
            self.assertEqual(desk.say("row " + row), "ok")
        self.assertEqual(desk.say("read"), f"worlds {len(house[3])}")
        self.assertEqual(desk.say("sure"), f"row {show_row(shown)}" if kind == "row" else "never")
        self.assertEqual(desk.say("tree"), f"tree {tree_depth(deep)} {tree_parts(deep)}" if other == "tree" else "never")
        if kind == "row":
            self.assertEqual(desk.say(f"goes {show_row(shown)}"), "well")
            self.assertEqual(desk.say(f"spare {show_row(shown)}"), show_row(shown))

    def test_houses_side_by_side(self):
        told = []
        samples = ruled_with_looks(160)
        for (_, _, _, _, parts), (_, _, _, _, other_parts) in zip(samples[::2], samples[1::2]):
            one, other = house_of(*parts), house_of(*called_otherwise(other_parts))
            both = side_by_side(one, other)
            self.assertEqual(read_house(show_house(both)), both)
            (kind, shown), (other_kind, other_shown) = sure_row(one), sure_row(other)
            told.append((kind, other_kind))
            self.assertEqual(sure_row(both)[0] == "row", kind == other_kind == "row")
            if kind == "never":
                paper = paper_for_both(one, other, shown)
                self.assertIs(never_shows(both, paper), True)
                self.assertIs(is_hopeless(both, paper, tuple(both[3])), True)
            elif other_kind == "row":
                row = row_for_both(one, other, shown, other_shown)
                self.assertEqual(row_goes(both, tuple(both[3]), row)[0], "well")
                self.assertEqual(len(sure_row(both)[1]), len(row))
            self.assertEqual(sure_tree(both)[0] == "tree", sure_tree(one)[0] == sure_tree(other)[0] == "tree")
            kept = house_kept_to((*both[:4], one[4]), one[0])
            self.assertEqual(kept, one)
        self.assertEqual(len(set(told)), 4)


def deep_condition(chance, facts, depth):
    """A condition twenty within one another, each of them beside a fact."""
    deep = fact(chance.choice(facts))
    for _ in range(depth):
        deep = (chance.choice(["both", "either"]), ("not", fact(chance.choice(facts))), deep)
    return deep


def greatest_looks(chance, facts):
    """Six looks, some of which can't be looked at everywhere, with deep conditions."""
    needs = [YES] * 4 + [deep_condition(chance, facts, 19) for _ in range(2)]
    return [("see" + name, need, deep_condition(chance, facts, 19)) for name, need in zip(facts, needs)]


def greatest_houses():
    """Houses of ten facts, twelve deeds of four ways, six looks, and sixty-four firsts, of many kinds."""
    facts = list(LETTERS[:10])
    for seed in range(8):
        chance = random.Random(seed)
        kind, deeds = seed % 4, []
        for letter in LETTERS:
            ways = []
            for _ in range(4):
                when = random_condition(chance, facts, 3) if kind < 2 else deep_condition(chance, facts, 19)
                many = chance.randint(1, 4)
                ways.append([(when, chance.choice(facts), chance.choice([True, False])) for _ in range(many)])
            # By one way alone, crowds stay few and small; by four, they are soon of hundreds of worlds.
            deeds.append(("go" + letter, YES, ways if kind % 2 else [ways[0]] * 4))
        firsts = sorted(chance.sample(range(1024), 64))
        wish = NEVER if seed < 4 else deep_condition(chance, facts, 19)
        yield house_of(facts, deeds, greatest_looks(chance, facts), firsts, wish)
    # Each deed sets a fact by chance, or not so: the crowds that are found are few, and great.
    mixing = [("go" + letter, YES, [[(YES, facts[at - 2], True)], [], [(YES, facts[at - 2], False)], []])
              for at, letter in enumerate(LETTERS)]
    yield house_of(facts, mixing, [], list(range(64)), NEVER)
    yield house_of(facts, mixing, [("see" + name, YES, fact(name)) for name in facts[:2]], list(range(64)), NEVER)


def great_tree(chance, deeds, looks):
    """A tree of about two hundred and forty parts, at most forty deep; of forty where there are no looks."""
    if not looks:
        return tree_of_row([chance.choice(deeds) for _ in range(39)])
    many = 0
    while not 200 <= many <= 240:
        tree = random_tree(chance, deeds, looks, 39)
        many = tree_parts(tree)
    return tree


def slow_counters():
    """A house of nearly two thousand crowds, twelve deeds and six looks, and a tree of more than two hundred depth."""
    maps = []
    for kind, letter in enumerate(LETTERS):
        behind = {at: [min(at + 1, 214)] if kind % 2 == 0 else [max(at - kind % 5, 0)] for at in range(215)}
        behind.update({256 + at: [256 + (at + kind) % 8] for at in range(8)})
        maps.append(("go" + letter, behind))
    worlds = [*range(215), *range(256, 264)]
    looks = [("see" + letter, worlds, range(0, 1024, place + 2)) for place, letter in enumerate(LETTERS[:6])]
    return house_of(*with_looks(mapped_parts(10, maps, [0, 256], [214, *range(256, 264)]), looks))


class TestSoon(unittest.TestCase):
    """The limits of [2]."""

    def soon(self, call, *arguments):
        """What the call tells, or None where it refuses; soon."""
        begun = time.monotonic()
        try:
            return call(*arguments)
        except PlanError as refused:
            self.assertIn(refused.__class__, (TooMany, NoPlan))
            return None
        finally:
            self.assertLess(time.monotonic() - begun, SECONDS, call.__name__)

    def test_the_greatest_houses(self):
        for house in greatest_houses():
            firsts, names = tuple(house[3]), [deed[0] for deed in house[1]]
            told = self.soon(sure_row, house)
            self.soon(how_many_rows, house)
            self.soon(least_deeds, house, [firsts, firsts[:1], tuple(range(64)), firsts])
            self.soon(parting_row, house, firsts, tuple(range(960, 1024)))
            self.soon(parting_row, house, firsts[:1], firsts[1:2])
            row = [names[at * at % 12] for at in range(100)]
            self.assertIn(self.soon(row_goes, house, firsts, row)[0], ("well", "ends"))
            self.assertLessEqual(len(self.soon(good_worlds, house, row)), 1024)
            self.assertGreater(len(self.soon(may_run, house, firsts[0], row[:6])), 0)
            self.assertLessEqual(len(self.soon(known_in, house, firsts)), 10)
            if told is not None and told[0] == "never":
                self.papers(house, told[1], firsts)
            self.trees(house, firsts, names)

    def trees(self, house, firsts, names):
        looks = [look[0] for look in house[2]]
        for crowd in (firsts, firsts[:1], tuple(range(1024))):
            self.assertLessEqual(len(self.soon(looks_in, house, crowd)), 6)
        for look in looks[:4]:
            self.assertEqual(sum(map(len, self.soon(sides_of, house, look, firsts))), len(firsts))
        told = self.soon(sure_tree, house)
        self.soon(least_depths, house, [firsts, firsts[:1], tuple(range(64)), firsts])
        if told is not None and told[0] == "never":
            self.assertIs(self.soon(never_with_looks, house, told[1]), True)
        chance = random.Random(40)
        for depth in (39, 8):
            tree = random_tree(chance, names, looks[:4], depth)
            self.assertIn(self.soon(tree_goes, house, firsts, tree)[0], ("well", "ends"))
            self.assertEqual(self.soon(tree_depth, tree) + 1 <= 40, True)
            self.assertLessEqual(len(self.soon(rows_of_tree, tree)), self.soon(tree_parts, tree))

    def test_a_deep_tree_among_nearly_two_thousand_crowds(self):
        house = slow_counters()
        kind, tree = self.soon(sure_tree, house)
        self.assertEqual((kind, self.soon(tree_depth, tree), self.soon(tree_parts, tree)), ("tree", 214, 215))
        self.assertEqual(self.soon(tree_goes, house, (0, 256), tree)[0], "well")
        self.assertEqual(self.soon(least_depths, house, [(at,) for at in range(215)]), list(range(214, -1, -1)))
        self.assertEqual(self.soon(least_depths, house, [(at, 256 + at % 8) for at in range(64)]),
                         [214 - at for at in range(64)])

    def test_spare_parts_of_the_greatest_plans(self):
        chance = random.Random(38)
        for house in greatest_houses():
            firsts, names = tuple(house[3]), [deed[0] for deed in house[1]]
            looks = [look[0] for look in house[2]][:4]
            free = house_of(*house[:4], YES)
            tree = great_tree(chance, names, looks)
            for told in (free, house):
                row = [chance.choice(names) for _ in range(30)]
                if row_goes(told, firsts, row)[0] == "well":
                    less = self.soon(row_made_less, told, firsts, row)
                    self.assertEqual(row_goes(told, firsts, less)[0], "well")
                if tree_goes(told, firsts, tree)[0] == "well":
                    less = self.soon(tree_made_less, told, firsts, tree)
                    self.assertEqual(tree_goes(told, firsts, less)[0], "well")
                    bare = self.soon(bare_tree, told, firsts, tree)
                    self.assertEqual(tree_goes(told, firsts, bare), tree_goes(told, firsts, tree))
            self.assertEqual(tree_made_less(free, firsts, tree), ("end",))

    def test_a_great_plan_of_which_little_is_spare(self):
        # Each step of 5 is needed to come from anywhere below 64 to above 900; what stays is put between.
        maps = [("step", {at: [min(at + 29, 1023), min(at + 31, 1023)] for at in range(1024)}),
                ("stay", {at: [at] for at in range(1024)})]
        looks = [("see" + letter, range(1024), [at for at in range(1024) if at >> place & 1])
                 for place, letter in enumerate(LETTERS[:6])]
        house = house_of(*with_looks(mapped_parts(10, maps, range(64), range(700, 1024)), looks))
        row = ["stay"] * 3 + ["step"] * 25 + ["stay"] * 2
        self.assertEqual(self.soon(row_made_less, house, tuple(range(64)), row), ["step"] * 25)
        tree = tree_of_row(["step", "stay"] * 12 + ["step"] * 13)
        tree = ("see", "seea", tree, ("see", "seeb", tree, ("see", "seec", tree, ("see", "seed", tree, ("end",)))))
        self.assertIsNone(self.soon(tree_made_less, house, tuple(range(64)), tree))
        tree = tree_of_row(["step", "stay"] * 12 + ["step"] * 13)
        tree = ("see", "seea", tree, ("see", "seeb", tree, ("see", "seec", tree, tree)))
        less = self.soon(tree_made_less, house, tuple(range(64)), tree)
        self.assertEqual(less, tree_of_row(["step"] * 25))

    def test_a_paper_of_two_thousand_crowds_with_looks(self):
        # No side of a look is in the paper itself, so that others are to be looked through.
        worlds = range(1024)
        looks = [("see" + letter, worlds, [at for at in worlds if at >> place & 1])
                 for place, letter in enumerate(LETTERS[:6])]
        house = house_of(*with_looks(mapped_parts(10, [("go", {at: [at] for at in worlds})], range(64), []), looks))
        paper = [(0, at) for at in range(1, 1024)] + [(0, 1, at) for at in range(2, 978)] + [(0,)]
        self.assertIs(self.soon(never_with_looks, house, paper), True)
        self.assertIs(self.soon(never_with_looks, house, paper[:-1]), False)

    def papers(self, house, paper, firsts):
        self.assertIs(self.soon(never_shows, house, paper), True)
        less = self.soon(less_paper, house, paper)
        self.assertIs(self.soon(never_shows, house, less), True)
        self.assertIs(self.soon(is_hopeless, house, less, firsts), True)

    def test_sixty_great_crowds_made_less(self):
        chance = random.Random(60)
        house = house_of(*mapped_parts(10, [("go", {at: [at * 5 % 1021, at] for at in range(1021)})], range(64), []))
        for _ in range(3):
            paper = [(0,)] + [tuple(sorted({0, *chance.sample(range(1021), 63)})) for _ in range(59)]
            self.assertEqual(self.soon(less_paper, house, paper), [(0,)])

    def test_a_paper_let_by_slowly(self):
        # No crowd behind a deed is in the paper itself, so that others are to be looked through.
        maps = [("go", {at: [at ^ 1, at] for at in range(1024)})]
        house = house_of(*mapped_parts(10, maps, range(64), []))
        paper = [(at,) for at in range(1, 1024, 2)] + [(at, at + 2) for at in range(1, 1020)]
        self.assertIs(self.soon(never_shows, house, paper), True)


if __name__ == "__main__":
    unittest.main()
