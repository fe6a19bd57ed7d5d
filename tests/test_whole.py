"""Tests of the promise of the whole [4], and that all is answered soon at the limits that [2] names."""

import itertools
import random
import time
import unittest

from sureplans.apart import good_worlds, parting_row
from sureplans.errors import PlanError, TooMany
from sureplans.houses import house_of
from sureplans.never import is_hopeless, less_paper, never_shows
from sureplans.rows import known_in, may_run, row_goes
from sureplans.sure import how_many_rows, least_deeds, sure_row
from tests.samples import (
    LETTERS, NEVER, YES, fact, mapped_parts, random_condition, refusal_of, ruled_samples, two_counters)

# What "within seconds" means here, for one call on a slow machine.
SECONDS = 30


class TestTheWhole(unittest.TestCase):
    """[4]"""

    def test_just_one_is_told_of_each_house(self):
        told = []
        for maps, firsts, well in ruled_samples(250):
            house = house_of(*mapped_parts(2, maps, firsts, well))
            names = [name for name, _ in maps]
            kind, shown = sure_row(house)
            told.append((kind, len(shown)))
            if kind == "row":
                self.check_row(house, names, tuple(firsts), shown)
            else:
                self.assertEqual(kind, "never")
                self.check_never(house, names, tuple(firsts), shown)
        self.assertTrue({("row", 0), ("row", 1), ("row", 2), ("never", 1), ("never", 2)} <= set(told))

    def check_row(self, house, names, firsts, row):
        self.assertEqual(row_goes(house, firsts, row)[0], "well")
        self.assertLess(len(row), 7)
        for many in range(len(row)):
            for shorter in itertools.product(names, repeat=many):
                self.assertNotEqual(row_goes(house, firsts, list(shorter))[0], "well")

    def check_never(self, house, names, firsts, paper):
        self.assertIs(never_shows(house, paper), True)
        self.assertEqual(how_many_rows(house), 0)
        for many in range(6):
            for row in itertools.product(names, repeat=many):
                self.assertNotEqual(row_goes(house, firsts, list(row))[0], "well")

    def test_where_a_row_is_told_no_paper_is_let_by(self):
        crowds = [crowd for many in (1, 2, 3, 4) for crowd in itertools.combinations(range(4), many)]
        papers = [list(paper) for many in (1, 2) for paper in itertools.combinations(crowds, many)]
        let_by = 0
        for maps, firsts, well in ruled_samples(40):
            house = house_of(*mapped_parts(2, maps, firsts, well))
            kind, _ = sure_row(house)
            for paper in papers:
                if never_shows(house, paper):
                    let_by += 1
                    self.assertEqual(kind, "never")
        self.assertGreater(let_by, 100)

    def test_too_many_crowds(self):
        house = house_of(*mapped_parts(8, two_counters(29, 69), [0, 128], []))
        self.assertIs(refusal_of(sure_row, house), TooMany)

    def test_a_paper_may_show_it_where_too_many_crowds_are_found(self):
        # One world that never changes is enough for the paper, though the search finds too many.
        house = house_of(*mapped_parts(8, [(name, {**behind, 255: [255]}) for name, behind in two_counters(29, 69)],
                                       [0, 128, 255], []))
        self.assertIs(refusal_of(sure_row, house), TooMany)
        self.assertIs(never_shows(house, [(255,)]), True)
        self.assertIs(is_hopeless(house, [(255,)], (0, 255)), True)


def deep_condition(chance, facts, depth):
    """A condition twenty within one another, each of them beside a fact."""
    deep = fact(chance.choice(facts))
    for _ in range(depth):
        deep = (chance.choice(["both", "either"]), ("not", fact(chance.choice(facts))), deep)
    return deep


def greatest_houses():
    """Houses of ten facts, twelve deeds of four ways, and sixty-four firsts, of many kinds."""
    facts = list(LETTERS[:10])
    for seed in range(8):
        chance = random.Random(seed)
        kind, deeds = seed % 4, []
        for letter in LETTERS:
            ways = []
            for _ in range(4):
                when = random_condition(chance, facts, 3) if kind < 2 else deep_condition(chance, facts, 19)
                many = chance.randint(1, 4)
                ways.append([(when, chance.choice(facts), chance.choice([True, False])) for _ in range(many)])
            # By one way alone, crowds stay few and small; by four, they are soon of hundreds of worlds.
            deeds.append(("go" + letter, YES, ways if kind % 2 else [ways[0]] * 4))
        firsts = sorted(chance.sample(range(1024), 64))
        yield house_of(facts, deeds, [], firsts, NEVER if seed < 4 else deep_condition(chance, facts, 19))
    # Each deed sets a fact by chance, or not so: the crowds that are found are few, and great.
    mixing = [("go" + letter, YES, [[(YES, facts[at - 2], True)], [], [(YES, facts[at - 2], False)], []])
              for at, letter in enumerate(LETTERS)]
    yield house_of(facts, mixing, [], list(range(64)), NEVER)


class TestSoon(unittest.TestCase):
    """The limits of [2]."""

    def soon(self, call, *arguments):
        """What the call tells, or None where it refuses; soon."""
        begun = time.monotonic()
        try:
            return call(*arguments)
        except PlanError as refused:
            self.assertIs(refused.__class__, TooMany)
            return None
        finally:
            self.assertLess(time.monotonic() - begun, SECONDS, call.__name__)

    def test_the_greatest_houses(self):
        for house in greatest_houses():
            firsts, names = tuple(house[3]), [deed[0] for deed in house[1]]
            told = self.soon(sure_row, house)
            self.soon(how_many_rows, house)
            self.soon(least_deeds, house, [firsts, firsts[:1], tuple(range(64)), firsts])
            self.soon(parting_row, house, firsts, tuple(range(960, 1024)))
            self.soon(parting_row, house, firsts[:1], firsts[1:2])
            row = [names[at * at % 12] for at in range(100)]
            self.assertIn(self.soon(row_goes, house, firsts, row)[0], ("well", "ends"))
            self.assertLessEqual(len(self.soon(good_worlds, house, row)), 1024)
            self.assertGreater(len(self.soon(may_run, house, firsts[0], row[:6])), 0)
            self.assertLessEqual(len(self.soon(known_in, house, firsts)), 10)
            if told is not None and told[0] == "never":
                self.papers(house, told[1], firsts)

    def papers(self, house, paper, firsts):
        self.assertIs(self.soon(never_shows, house, paper), True)
        less = self.soon(less_paper, house, paper)
        self.assertIs(self.soon(never_shows, house, less), True)
        self.assertIs(self.soon(is_hopeless, house, less, firsts), True)

    def test_sixty_great_crowds_made_less(self):
        chance = random.Random(60)
        house = house_of(*mapped_parts(10, [("go", {at: [at * 5 % 1021, at] for at in range(1021)})], range(64), []))
        for _ in range(3):
            paper = [(0,)] + [tuple(sorted({0, *chance.sample(range(1021), 63)})) for _ in range(59)]
            self.assertEqual(self.soon(less_paper, house, paper), [(0,)])

    def test_a_paper_let_by_slowly(self):
        # No crowd behind a deed is in the paper itself, so that others are to be looked through.
        maps = [("go", {at: [at ^ 1, at] for at in range(1024)})]
        house = house_of(*mapped_parts(10, maps, range(64), []))
        paper = [(at,) for at in range(1, 1024, 2)] + [(at, at + 2) for at in range(1, 1020)]
        self.assertIs(self.soon(never_shows, house, paper), True)


if __name__ == "__main__":
    unittest.main()
