"""Tests of sureplans.never: points [2], [3], [18], [19] and [20]."""

import copy
import itertools
import random
import unittest

from sureplans.errors import NoPaper, NoWorld
from sureplans.houses import house_of
from sureplans.never import is_hopeless, less_paper, never_shows
from sureplans.rows import row_goes
from sureplans.sure import sure_row
from tests.samples import (
    LETTERS, NEVER, YES, bare_parts, clock, fact, let_by_maps, lists_within, mapped_parts, maps_of, random_crowd,
    random_parts, refusal_of, ruled_samples, two_counters, with_part)

# Tuples that are no crowd of a house with two facts.
NO_CROWDS = [
    (), (1, 0), (0, 3, 2), (1, 1), (0, 1, 3, 3), (-1,), (4,), (-1, 0), (0, 4), (0, 1, 2, 3, 4), (1 << 64,),
    (10 ** 5000,), (-10 ** 5000,), (-10 ** 5000, 1), (0, 10 ** 5000),
]

# One turns 0 and 1 about, and 2 and 3; the other leads from 2 and 3 to 0; only 0 is well.
MAPS = [("turn", {0: [1], 1: [0], 2: [3], 3: [2]}), ("drop", {2: [0], 3: [0]})]


def mapped_house(maps=MAPS, firsts=(0, 1), well=(0,), many=2):
    return house_of(*mapped_parts(many, maps, firsts, well))


class TestNeverShows(unittest.TestCase):
    """[18]"""

    def assert_shows(self, due, paper, house=None):
        house = mapped_house() if house is None else house
        self.assertIs(never_shows(house, paper), due)

    def test_let_by(self):
        self.assert_shows(True, [(0, 1)])

    def test_no_crowd_within_the_firsts(self):
        self.assert_shows(True, [(0, 1)], mapped_house(firsts=[0, 1, 2]))
        self.assert_shows(True, [(0, 1)], mapped_house(firsts=[0, 1, 2, 3]))
        for firsts in ([0], [1], [0, 2], [1, 2, 3], [2, 3]):
            self.assert_shows(False, [(0, 1)], mapped_house(firsts=firsts))

    def test_one_crowd_within_the_firsts_is_enough(self):
        self.assert_shows(True, [(0, 1, 2, 3), (0, 1)], mapped_house(MAPS[:1]))
        self.assert_shows(True, [(0, 1), (0, 1, 2, 3)], mapped_house(MAPS[:1]))
        self.assert_shows(False, [(0, 1, 2, 3)], mapped_house(MAPS[:1]))

    def test_a_crowd_in_which_all_is_well(self):
        self.assert_shows(False, [(0, 1)], mapped_house(well=[0, 1]))
        self.assert_shows(False, [(0, 1)], mapped_house(well=[0, 1, 2, 3]))
        for well in ([], [1], [0, 2], [1, 2, 3]):
            self.assert_shows(True, [(0, 1)], mapped_house(well=well))

    def test_one_crowd_in_which_all_is_well_is_enough(self):
        # From (0,) and (1,) deeds lead to one another, so that this bars it alone.
        self.assert_shows(False, [(0, 1), (0,), (1,)])
        self.assert_shows(True, [(0, 1), (0,), (1,)], mapped_house(well=[2]))
        self.assert_shows(False, [(0, 1), (0,), (1,)], mapped_house(well=[1]))

    def test_a_deed_behind_which_no_crowd_lies(self):
        self.assert_shows(False, [(1,)])
        self.assert_shows(True, [(1,)], mapped_house([("turn", {0: [1]})]))
        self.assert_shows(False, [(0, 1), (1,)])
        self.assert_shows(False, [(0, 1), (2, 3)])
        self.assert_shows(False, [(2, 3), (0, 1)])

    def test_each_deed_is_asked(self):
        maps = [("stay", {0: [0], 1: [1]}), ("zap", {0: [1], 1: [1]})]
        self.assert_shows(False, [(0, 1)], mapped_house(maps))
        self.assert_shows(False, [(0, 1)], mapped_house(maps[::-1]))
        self.assert_shows(True, [(0, 1)], mapped_house(maps[:1]))
        self.assert_shows(True, [(0, 1), (1,)], mapped_house(maps))

    def test_a_deed_that_can_be_done_in_some_worlds_alone_is_not_asked(self):
        maps = [("zap", {0: [2], 2: [2]})]
        self.assert_shows(True, [(0, 1)], mapped_house(maps))
        self.assert_shows(False, [(0,)], mapped_house(maps, well=[3]))

    def test_a_smaller_crowd_within_what_is_behind_will_do(self):
        maps = [("luck", {0: [0, 1, 2], 1: [1, 3]})]
        self.assert_shows(True, [(0, 1)], mapped_house(maps))
        self.assert_shows(True, [(0, 1)], mapped_house(maps, firsts=[0, 1, 3]))

    def test_a_greater_crowd_than_what_is_behind_will_not(self):
        maps = [("zap", {0: [1], 1: [1]})]
        self.assert_shows(False, [(0, 1), (0, 1, 2)], mapped_house(maps))
        self.assert_shows(False, [(0, 1), (1, 2)], mapped_house(maps))

    def test_a_paper_of_no_crowds(self):
        self.assert_shows(False, [])
        self.assert_shows(False, [], house_of(*with_part(bare_parts(["a"]), 4, NEVER)))

    def test_what_is_no_crowd_at_any_place(self):
        for place, crowd in enumerate(NO_CROWDS):
            for paper in ([crowd], [crowd, (0, 1)], [(0, 1), crowd], [(0, 1), crowd, (0, 1)]):
                with self.subTest(place, many=len(paper)):
                    self.assert_shows(False, paper)

    def test_a_crowd_twice(self):
        self.assert_shows(True, [(0, 1), (0, 1)])
        self.assert_shows(True, [(0, 1), (0, 1), (0, 1)])
        self.assert_shows(False, [(1,), (1,)])

    def test_any_order(self):
        house = mapped_house(firsts=[1], well=[2, 3])
        for paper in itertools.permutations([(0,), (1,), (0, 1)]):
            self.assert_shows(True, list(paper), house)

    def test_what_is_told_never_for_another_house_is_not_let_by(self):
        house, other = mapped_house(MAPS, [0, 1], [0]), mapped_house(MAPS, [2, 3], [0, 3])
        spoilt = mapped_house(MAPS, [2, 3], [2])
        self.assertEqual(sure_row(other), ("row", ["drop"]))
        for own, foreign in ((house, other), (spoilt, house), (house, spoilt), (spoilt, other)):
            kind, paper = sure_row(own)
            self.assertEqual(kind, "never")
            self.assert_shows(True, paper, own)
            self.assert_shows(False, paper, foreign)

    def test_a_paper_of_a_greater_house(self):
        paper = sure_row(mapped_house(two_counters(5, 5), [0, 128], [], 8))[1]
        self.assert_shows(False, paper)

    def test_two_thousand_crowds(self):
        for maps, many in ((two_counters(40, 50), 8), (clock(16, 125), 9)):
            house = mapped_house(maps, [0, 128], [], many)
            kind, paper = sure_row(house)
            self.assertEqual((kind, len(paper)), ("never", 2000))
            self.assert_shows(True, paper, house)
            self.assert_shows(False, paper[:-1], house)
            self.assert_shows(False, paper[1:], mapped_house(clock(16, 125), [0, 128], [], 9))

    def test_all_papers_of_a_few_crowds_by_a_rule(self):
        some = [(0,), (1,), (3,), (0, 1), (1, 2), (2, 3), (0, 1, 2), (0, 1, 2, 3)]
        papers = [list(paper) for many in range(4) for paper in itertools.combinations(some, many)]
        let_by = 0
        for maps, firsts, well in ruled_samples(60):
            house = mapped_house(maps, firsts, well)
            for paper in papers:
                due = let_by_maps(maps, well, firsts, paper)
                self.assert_shows(due, paper, house)
                let_by += due
        self.assertGreater(let_by, 100)

    def test_papers_by_chance(self):
        chance = random.Random(18)
        for _ in range(100):
            parts = random_parts(chance)
            house, (maps, well) = house_of(*parts), maps_of(parts)
            for _ in range(10):
                paper = [random_crowd(chance, parts[0]) for _ in range(chance.randint(1, 5))]
                self.assert_shows(let_by_maps(maps, well, parts[3], paper), paper, house)


class TestLessPaper(unittest.TestCase):
    """[19]"""

    def assert_made_less(self, house, maps, firsts, well, paper):
        """What is told is let by, made of the paper's crowds, each once, and not let by without any one."""
        told = less_paper(house, paper)
        self.assertIs(told.__class__, list)
        self.assertTrue(all(crowd.__class__ is tuple for crowd in told))
        self.assertTrue(set(told) <= set(paper))
        self.assertEqual(len(set(told)), len(told))
        self.assertTrue(let_by_maps(maps, set(well), firsts, told))
        for place in range(len(told)):
            self.assertFalse(let_by_maps(maps, set(well), firsts, told[:place] + told[place + 1:]))
        return told

    def test_a_paper_that_is_so_already(self):
        self.assertEqual(less_paper(mapped_house(), [(0, 1)]), [(0, 1)])
        house = mapped_house(firsts=[1], well=[2, 3])
        self.assertEqual(sorted(less_paper(house, [(0,), (1,)])), [(0,), (1,)])

    def test_a_crowd_twice(self):
        self.assertEqual(less_paper(mapped_house(), [(0, 1), (0, 1), (0, 1)]), [(0, 1)])

    def test_crowds_that_nothing_asks_for(self):
        house = mapped_house(MAPS[:1])
        for paper in itertools.permutations([(0, 1, 2, 3), (0, 1), (2, 3), (0, 1, 2)]):
            self.assertEqual(less_paper(house, list(paper)), [(0, 1)])

    def test_a_crowd_that_only_a_spare_one_asks_for(self):
        # Each of these leads to the next, so that one after another comes to be spare.
        maps = [("on", {0: [0], 1: [2], 2: [3], 3: [0]})]
        house = mapped_house(maps, [0], [1])
        for paper in itertools.permutations([(0,), (2,), (3,), (1, 2), (1, 3)]):
            self.assertEqual(less_paper(house, list(paper)), [(0,)])

    def test_crowds_that_ask_for_one_another(self):
        maps = [("turn", {0: [1], 1: [0], 2: [3], 3: [2]})]
        house = mapped_house(maps, [0, 2], [])
        paper = [(0,), (1,), (2,), (3,)]
        told = self.assert_made_less(house, maps, [0, 2], [], paper)
        # Either half will do, but of all four no one alone can be left out.
        self.assertIn(len(told), (2, 4))
        for order in itertools.permutations(paper):
            self.assert_made_less(house, maps, [0, 2], [], list(order))

    def test_a_crowd_that_asks_for_itself_alone_does_not_stay_for_that(self):
        maps = [("stay", {0: [0], 1: [1], 2: [2]})]
        house = mapped_house(maps, [0, 1, 2], [])
        for paper in itertools.permutations([(0,), (1,), (2,), (0, 1), (1, 2)]):
            self.assertEqual(len(self.assert_made_less(house, maps, [0, 1, 2], [], list(paper))), 1)

    def test_one_of_more_that_will_do_stays(self):
        maps = [("luck", {0: [1, 2], 1: [1], 2: [2]})]
        house = mapped_house(maps, [0], [])
        for paper in itertools.permutations([(0,), (1,), (2,), (1, 2)]):
            self.assertEqual(len(self.assert_made_less(house, maps, [0], [], list(paper))), 2)

    def test_no_paper(self):
        house = mapped_house()
        papers = [[], [(1,)], [(0,)], [(0, 1), (0,), (1,)], [(2, 3)], [(0, 1), (2, 3)]]
        papers += [[(0, 1), crowd] for crowd in NO_CROWDS]
        for place, paper in enumerate(papers):
            with self.subTest(place):
                before = list(paper)
                self.assertIs(refusal_of(less_paper, house, paper), NoPaper)
                self.assertEqual(paper, before)

    def test_sixty_crowds(self):
        maps = [("tick", {at: [(at + 1) * (at < 59)] for at in range(64)})]
        house = mapped_house(maps, [0], [60], 6)
        paper = [(at,) for at in range(60)]
        self.assertEqual(sorted(less_paper(house, paper[::-1])), paper)

    def test_sixty_crowds_of_which_some_are_spare(self):
        maps = [("tick", {at: [(at + 1) * (at < 39)] for at in range(64)})]
        house = mapped_house(maps, [0], [60], 6)
        needed = [(at,) for at in range(40)]
        for paper in (needed + [(at, at + 40) for at in range(20)], [(at, at + 40) for at in range(20)] + needed):
            self.assertEqual(sorted(less_paper(house, paper)), needed)

    def test_sixty_crowds_each_enough_by_itself(self):
        maps = [("stay", {at: [at] for at in range(64)})]
        house = mapped_house(maps, range(60), [63], 6)
        paper = [(at,) for at in range(60)]
        self.assertEqual(len(self.assert_made_less(house, maps, range(60), [63], paper)), 1)

    def test_a_told_paper_of_two_thousand_crowds(self):
        for maps, many, least in ((two_counters(40, 50), 8, 1), (clock(16, 125), 9, 2000)):
            house = mapped_house(maps, [0, 128], [], many)
            told = less_paper(house, sure_row(house)[1])
            self.assertIs(never_shows(house, told), True)
            self.assertGreaterEqual(len(told), least)
            self.assertEqual(sorted(less_paper(house, told)), sorted(told))

    def test_told_papers_by_a_rule_and_by_chance(self):
        samples = [(mapped_parts(2, *sample), sample[0], sample[2]) for sample in ruled_samples(300)]
        chance = random.Random(19)
        for _ in range(150):
            parts = random_parts(chance)
            samples.append((parts, *maps_of(parts)))
        for parts, maps, well in samples:
            house = house_of(*parts)
            kind, paper = sure_row(house)
            if kind == "never" and len(paper) <= 60:
                told = self.assert_made_less(house, maps, parts[3], well, paper)
                self.assert_made_less(house, maps, parts[3], well, paper[::-1] + paper)
                self.assertEqual(sorted(less_paper(house, told)), sorted(told))

    def test_papers_of_all_crowds_that_are_not_well(self):
        for maps, firsts, well in ruled_samples(300):
            crowds = [crowd for many in (1, 2, 3, 4) for crowd in itertools.combinations(range(4), many)]
            paper = self.greatest(maps, well, crowds)
            if let_by_maps(maps, well, firsts, paper):
                house = mapped_house(maps, firsts, well)
                self.assert_made_less(house, maps, firsts, well, paper)
                self.assert_made_less(house, maps, firsts, well, paper[::-1])

    def greatest(self, maps, well, crowds):
        """All crowds that are hopeless: left over when each one is taken out that the others do not hold."""
        left = [crowd for crowd in crowds if not set(crowd) <= well]
        while True:
            stay = [crowd for crowd in left if let_by_maps(maps, well, range(4), [crowd] + left)
                    and self.held(maps, crowd, left)]
            if stay == left:
                return left
            left = stay

    def held(self, maps, crowd, left):
        for _, behind in maps:
            if all(world in behind for world in crowd):
                there = {each for world in crowd for each in behind[world]}
                if not any(set(each) <= there for each in left):
                    return False
        return True


class TestIsHopeless(unittest.TestCase):
    """[20]"""

    def test_hopeless_and_not(self):
        house = mapped_house()
        for crowd, due in (((0, 1), True), ((0, 1, 2), True), ((0, 1, 2, 3), True), ((0,), False), ((1,), False),
                           ((0, 2), False), ((2, 3), False), ((1, 2, 3), False)):
            self.assertIs(is_hopeless(house, [(0, 1)], crowd), due)

    def test_by_any_crowd_of_the_paper(self):
        house = mapped_house(firsts=[1], well=[2, 3])
        self.assertIs(is_hopeless(house, [(1,), (0,)], (0, 3)), True)
        self.assertIs(is_hopeless(house, [(1,), (0,)], (1, 2)), True)
        self.assertIs(is_hopeless(house, [(1,), (0,)], (2, 3)), False)

    def test_the_firsts_are_hopeless_by_each_paper(self):
        for maps, firsts, well in ruled_samples(100):
            house = mapped_house(maps, firsts, well)
            kind, paper = sure_row(house)
            if kind == "never":
                self.assertIs(is_hopeless(house, paper, tuple(firsts)), True)

    def test_from_a_hopeless_crowd_no_row_goes_well(self):
        crowds = [crowd for many in (1, 2, 3, 4) for crowd in itertools.combinations(range(4), many)]
        seen = 0
        for maps, firsts, well in ruled_samples(60):
            house = mapped_house(maps, firsts, well)
            kind, paper = sure_row(house)
            rows = [list(row) for many in range(5) for row in itertools.product([name for name, _ in maps], repeat=many)]
            for crowd in crowds if kind == "never" else []:
                within = any(set(each) <= set(crowd) for each in paper)
                self.assertIs(is_hopeless(house, paper, crowd), within)
                if within:
                    seen += 1
                    self.assertFalse(any(row_goes(house, crowd, row)[0] == "well" for row in rows))
        self.assertGreater(seen, 20)

    def test_no_paper(self):
        house = mapped_house()
        for paper in ([], [(1,)], [(0, 1), (0,), (1,)], [(2, 3)], [(0, 1), ()], [(1, 0)]):
            self.assertIs(refusal_of(is_hopeless, house, paper, (0, 1)), NoPaper)

    def test_no_world(self):
        house = mapped_house()
        for place, crowd in enumerate(NO_CROWDS):
            with self.subTest(place):
                self.assertIs(refusal_of(is_hopeless, house, [(0, 1)], crowd), NoWorld)

    def test_no_paper_goes_ahead_of_no_world(self):
        house = mapped_house()
        for place, crowd in enumerate(NO_CROWDS):
            with self.subTest(place):
                self.assertIs(refusal_of(is_hopeless, house, [(1,)], crowd), NoPaper)
                self.assertIs(refusal_of(is_hopeless, house, [], crowd), NoPaper)


class TestToldAndHandedIn(unittest.TestCase):
    """[2] and [3]"""

    def test_what_is_handed_in_stays(self):
        house = mapped_house(MAPS[:1])
        paper = [(0, 1, 2, 3), (0, 1), (0, 1), (2, 3)]
        before = copy.deepcopy((house, paper))
        never_shows(house, paper)
        less_paper(house, paper)
        is_hopeless(house, paper, (0, 1, 2))
        self.assertEqual((house, paper), before)

    def test_what_is_refused_changes_nothing(self):
        house = mapped_house()
        paper = [(0, 1), (2, 3), (2, 3)]
        before = copy.deepcopy((house, paper))
        self.assertIs(refusal_of(less_paper, house, paper), NoPaper)
        self.assertIs(refusal_of(is_hopeless, house, paper, (0,)), NoPaper)
        self.assertEqual((house, paper), before)

    def test_tellings_share_no_list_and_stay_the_same(self):
        house = mapped_house(MAPS[:1])
        for paper in ([(0, 1)], [(0, 1, 2, 3), (0, 1)]):
            told, again = less_paper(house, paper), less_paper(house, paper)
            self.assertEqual(told, again)
            self.assertEqual(len({id(each) for each in (told, again, paper)}), 3)
            told.append("spoilt")
            self.assertEqual(less_paper(house, paper), again)

    def test_a_changed_paper_changes_nothing_told(self):
        house = mapped_house()
        paper = [(0, 1)]
        told = less_paper(house, paper)
        paper.append((2,))
        self.assertEqual(told, [(0, 1)])

    def test_ten_facts_and_chance(self):
        facts = list(LETTERS[:10])
        ways = [[(YES, name, True)] for name in facts[:4]]
        house = house_of(facts, [("go", YES, ways)], [], [0, 1], fact("j"))
        kind, paper = sure_row(house)
        self.assertEqual(kind, "never")
        self.assertEqual(lists_within(paper), [paper])
        self.assertIs(never_shows(house, paper), True)
        self.assertIs(never_shows(house, less_paper(house, paper)), True)


if __name__ == "__main__":
    unittest.main()
