"""Tests of sureplans.doing: points [2], [3], [9], [10] and [11]."""

import copy
import random
import unittest

from sureplans.doing import crowd_behind, doable_in, worlds_behind
from sureplans.errors import NoDeed, NoNeed, NoWorld
from sureplans.houses import house_of
from tests.samples import (
    LETTERS, NEVER, YES, bare_parts, behind_by_facts, fact, holds_by_python, random_crowd, random_parts,
    refusal_of, safe_parts, with_part)

# Tuples that are no crowd of a house with two facts.
NO_CROWDS = [
    (), (1, 0), (0, 3, 2), (1, 1), (0, 1, 3, 3), (-1,), (4,), (-1, 0), (0, 4), (0, 1, 2, 3, 4), (1 << 64,),
    (10 ** 5000,), (-10 ** 5000,), (True,), (False, 1),
]
NO_WORLDS = [-1, -2, 4, 5, 1 << 64, 10 ** 5000, -10 ** 5000, True, False]
NO_DEEDS = ["", "pull", "pres", "presss", "PRESS", "press ", "peep", "lamp", "press\n", "\u20ac", "x" * 2000]


def house_with_ways(ways, facts="ab", need=YES):
    """A house with one deed, called go."""
    return house_of(*with_part(bare_parts(list(facts)), 1, [("go", need, ways)]))


class TestWorldsBehind(unittest.TestCase):
    """[9]"""

    def assert_behind(self, ways, due, facts="ab"):
        """The worlds behind go are these, for each world of the house."""
        house = house_with_ways(ways, facts)
        self.assertEqual([worlds_behind(house, "go", world) for world in range(1 << len(facts))], due)

    def test_a_fact_becomes_so_or_not_so(self):
        self.assert_behind([[(YES, "a", True)]], [[1], [1], [3], [3]])
        self.assert_behind([[(YES, "a", False)]], [[0], [0], [2], [2]])
        self.assert_behind([[(YES, "b", True)]], [[2], [3], [2], [3]])
        self.assert_behind([[(YES, "b", False)]], [[0], [1], [0], [1]])

    def test_a_way_without_changes(self):
        self.assert_behind([[]], [[0], [1], [2], [3]])

    def test_a_when_that_does_not_hold(self):
        self.assert_behind([[(NEVER, "a", True)]], [[0], [1], [2], [3]])
        self.assert_behind([[(fact("b"), "a", True)]], [[0], [1], [3], [3]])
        self.assert_behind([[(("not", fact("a")), "b", True)]], [[2], [1], [2], [3]])

    def test_changes_are_made_at_once_by_the_world_ahead(self):
        self.assert_behind([[(YES, "a", True), (fact("a"), "b", True)]], [[1], [3], [3], [3]])
        self.assert_behind([[(YES, "a", False), (fact("a"), "b", True)]], [[0], [2], [2], [2]])

    def test_facts_change_their_places_at_once(self):
        swap = [(fact("a"), "b", True), (("not", fact("a")), "b", False),
                (fact("b"), "a", True), (("not", fact("b")), "a", False)]
        self.assert_behind([swap], [[0], [2], [1], [3]])

    def test_a_fact_turns_over(self):
        flip = [(fact("a"), "a", False), (("not", fact("a")), "a", True)]
        self.assert_behind([flip], [[1], [0], [3], [2]])
        self.assert_behind([flip[::-1]], [[1], [0], [3], [2]])

    def test_of_contrary_changes_the_later_one_counts(self):
        self.assert_behind([[(YES, "a", True), (YES, "a", False)]], [[0], [0], [2], [2]])
        self.assert_behind([[(YES, "a", False), (YES, "a", True)]], [[1], [1], [3], [3]])
        thrice = [(YES, "a", True), (YES, "a", False), (YES, "a", True)]
        self.assert_behind([thrice], [[1], [1], [3], [3]])

    def test_a_later_contrary_change_counts_only_where_its_when_holds(self):
        self.assert_behind([[(YES, "a", True), (fact("b"), "a", False)]], [[1], [1], [2], [2]])
        self.assert_behind([[(fact("b"), "a", False), (YES, "a", True)]], [[1], [1], [3], [3]])

    def test_a_change_to_what_is_so_already_counts_too(self):
        self.assert_behind([[(YES, "a", False), (fact("a"), "a", True)]], [[0], [1], [2], [3]])
        self.assert_behind([[(YES, "a", True), (("not", fact("a")), "a", False)]], [[0], [1], [2], [3]])

    def test_one_world_for_each_way_sorted_each_once(self):
        both = [(YES, "a", True), (YES, "b", True)]
        neither = [(YES, "a", False), (YES, "b", False)]
        self.assert_behind([both, neither], [[0, 3]] * 4)
        self.assert_behind([both, both], [[3]] * 4)
        self.assert_behind([both, [], neither, both], [[0, 3], [0, 1, 3], [0, 2, 3], [0, 3]])
        self.assert_behind([[(YES, "b", True)], [(YES, "a", True)], []], [[0, 1, 2], [1, 3], [2, 3], [3]])

    def test_ways_are_not_mixed(self):
        self.assert_behind([[(YES, "a", True)], [(fact("a"), "b", True)]], [[0, 1], [1, 3], [2, 3], [3]])

    def test_the_last_of_ten_facts(self):
        house = house_with_ways([[(YES, "j", True)], [(fact("j"), "a", True)]], LETTERS[:10])
        self.assertEqual(worlds_behind(house, "go", 0), [0, 512])
        self.assertEqual(worlds_behind(house, "go", 512), [512, 513])
        self.assertEqual(worlds_behind(house, "go", 1023), [1023])

    def test_the_deed_is_found_among_others(self):
        house = house_of(*safe_parts())
        self.assertEqual(worlds_behind(house, "press", 2), [3])
        self.assertEqual(worlds_behind(house, "push", 1), [1, 3])

    def test_a_deed_called_like_a_fact(self):
        house = house_of(*with_part(safe_parts(), 1, [("lamp", YES, [[(YES, "door", True)]])]))
        self.assertEqual(worlds_behind(house, "lamp", 0), [2])


class TestWorldsBehindRefused(unittest.TestCase):
    """The refusals of [9], and [3]."""

    def assert_refused(self, refusal, name, world):
        house = house_of(*safe_parts())
        self.assertIs(refusal_of(worlds_behind, house, name, world), refusal)
        self.assertEqual(house, safe_parts())

    def test_no_deed(self):
        for name in NO_DEEDS:
            with self.subTest(name):
                self.assert_refused(NoDeed, name, 1)

    def test_no_deed_where_there_are_none(self):
        self.assertIs(refusal_of(worlds_behind, house_of(*bare_parts(["a"])), "a", 0), NoDeed)

    def test_no_world(self):
        for place, world in enumerate(NO_WORLDS):
            with self.subTest(place):
                self.assert_refused(NoWorld, "press", world)

    def test_the_last_world_is_one(self):
        self.assertEqual(worlds_behind(house_of(*safe_parts()), "press", 3), [2])

    def test_no_need(self):
        self.assert_refused(NoNeed, "push", 0)
        self.assert_refused(NoNeed, "push", 2)
        self.assertIs(refusal_of(worlds_behind, house_with_ways([[]], need=NEVER), "go", 0), NoNeed)

    def test_no_deed_goes_ahead_of_no_world(self):
        for world in (-1, 4, 10 ** 5000):
            self.assert_refused(NoDeed, "pull", world)

    def test_no_world_goes_ahead_of_no_need(self):
        for world in (-2, 4, 6):
            self.assert_refused(NoWorld, "push", world)


class TestCrowdBehind(unittest.TestCase):
    """[10]"""

    def test_a_crowd_of_one_world(self):
        house = house_of(*safe_parts())
        self.assertEqual(crowd_behind(house, "press", (0,)), (1,))
        self.assertEqual(crowd_behind(house, "push", (1,)), (1, 3))

    def test_a_crowd_of_many(self):
        house = house_of(*safe_parts())
        self.assertEqual(crowd_behind(house, "press", (0, 1, 2, 3)), (0, 1, 2, 3))
        self.assertEqual(crowd_behind(house, "press", (0, 3)), (1, 2))
        self.assertEqual(crowd_behind(house, "push", (1, 3)), (1, 3))

    def test_worlds_come_together_and_stand_rising(self):
        house = house_with_ways([[(YES, "a", True)]])
        self.assertEqual(crowd_behind(house, "go", (0, 1, 2, 3)), (1, 3))
        turned = house_with_ways([[(fact("b"), "b", False), (("not", fact("b")), "b", True)]])
        self.assertEqual(crowd_behind(turned, "go", (0, 3)), (1, 2))
        self.assertEqual(crowd_behind(turned, "go", (0, 1, 2)), (0, 2, 3))

    def test_all_sixty_four_worlds_and_all_of_ten_facts(self):
        for many in (6, 10):
            house = house_with_ways([[(YES, "a", True)], [(YES, "a", False)]], LETTERS[:many])
            everything = tuple(range(1 << many))
            self.assertEqual(crowd_behind(house, "go", everything), everything)
            self.assertEqual(crowd_behind(house, "go", everything[::2]), everything)

    def test_a_crowd_is_told_as_a_tuple(self):
        house = house_of(*safe_parts())
        self.assertIs(crowd_behind(house, "press", (0, 1)).__class__, tuple)

    def test_it_can_be_done_only_where_it_can_in_each_world(self):
        house = house_of(*safe_parts())
        self.assertIsNone(refusal_of(crowd_behind, house, "push", (1, 3)))
        for crowd in ((0,), (0, 1), (1, 2), (0, 1, 2, 3), (2, 3)):
            with self.subTest(crowd):
                self.assertIs(refusal_of(crowd_behind, house, "push", crowd), NoNeed)

    def test_what_is_no_crowd(self):
        house = house_of(*safe_parts())
        for place, crowd in enumerate(NO_CROWDS):
            with self.subTest(place):
                self.assertIs(refusal_of(crowd_behind, house, "press", crowd), NoWorld)
        self.assertEqual(house, safe_parts())

    def test_no_deed(self):
        house = house_of(*safe_parts())
        for name in NO_DEEDS:
            with self.subTest(name):
                self.assertIs(refusal_of(crowd_behind, house, name, (1,)), NoDeed)

    def test_the_order_of_the_refusals(self):
        house = house_of(*safe_parts())
        for place, crowd in enumerate(NO_CROWDS):
            with self.subTest(place):
                self.assertIs(refusal_of(crowd_behind, house, "pull", crowd), NoDeed)
                self.assertIs(refusal_of(crowd_behind, house, "push", crowd), NoWorld)
        self.assertIs(refusal_of(crowd_behind, house, "pull", (0, 2)), NoDeed)


class TestDoableIn(unittest.TestCase):
    """[11]"""

    def setUp(self):
        needs = [("zap", YES), ("bow", fact("a")), ("ask", ("not", fact("b"))), ("nap", NEVER),
                 ("act", ("either", fact("a"), fact("b")))]
        deeds = [(name, need, [[]]) for name, need in needs]
        self.house = house_of(*with_part(bare_parts(["a", "b"]), 1, deeds))

    def test_the_names_stand_in_the_houses_order(self):
        self.assertEqual(doable_in(self.house, (1,)), ["zap", "bow", "ask", "act"])

    def test_only_what_can_be_done_in_each_world(self):
        self.assertEqual(doable_in(self.house, (0,)), ["zap", "ask"])
        self.assertEqual(doable_in(self.house, (0, 1)), ["zap", "ask"])
        self.assertEqual(doable_in(self.house, (1, 3)), ["zap", "bow", "act"])
        self.assertEqual(doable_in(self.house, (1, 2, 3)), ["zap", "act"])
        self.assertEqual(doable_in(self.house, (0, 1, 2, 3)), ["zap"])

    def test_none_can_be_done(self):
        self.assertEqual(doable_in(house_of(*bare_parts(["a"])), (0, 1)), [])
        self.assertEqual(doable_in(house_with_ways([[]], need=NEVER), (0,)), [])

    def test_all_twelve_can_be_done(self):
        names = list(reversed(LETTERS))
        deeds = [(name, YES, [[]]) for name in names]
        house = house_of(*with_part(bare_parts(["a"]), 1, deeds))
        self.assertEqual(doable_in(house, (0, 1)), names)

    def test_looks_are_no_deeds(self):
        self.assertEqual(doable_in(house_of(*safe_parts()), (1,)), ["press", "push"])

    def test_what_is_no_crowd(self):
        house = house_of(*safe_parts())
        for place, crowd in enumerate(NO_CROWDS):
            with self.subTest(place):
                self.assertIs(refusal_of(doable_in, house, crowd), NoWorld)
        self.assertEqual(house, safe_parts())

    def test_what_is_no_crowd_where_there_are_no_deeds(self):
        self.assertIs(refusal_of(doable_in, house_of(*bare_parts(["a"])), ()), NoWorld)


class TestDoneByChance(unittest.TestCase):
    """[9], [10] and [11] against answers worked out fact by fact."""

    def test_houses_by_chance(self):
        chance = random.Random(9)
        for _ in range(150):
            parts = random_parts(chance)
            crowds = [random_crowd(chance, parts[0]) for _ in range(4)]
            for crowd in crowds + [(world,) for world in range(1 << len(parts[0]))]:
                self.check_crowd(parts, crowd)

    def check_crowd(self, parts, crowd):
        facts, deeds = parts[0], parts[1]
        house = house_of(*parts)
        doable = []
        for name, need, ways in deeds:
            if all(holds_by_python(facts, need, world) for world in crowd):
                doable.append(name)
                due = {behind_by_facts(facts, way, world) for way in ways for world in crowd}
                self.assertEqual(crowd_behind(house, name, crowd), tuple(sorted(due)))
                if len(crowd) == 1:
                    self.assertEqual(worlds_behind(house, name, crowd[0]), sorted(due))
            else:
                self.assertIs(refusal_of(crowd_behind, house, name, crowd), NoNeed)
                if len(crowd) == 1:
                    self.assertIs(refusal_of(worlds_behind, house, name, crowd[0]), NoNeed)
        self.assertEqual(doable_in(house, crowd), doable)


class TestToldLists(unittest.TestCase):
    """[2]: every told list is new and the asker's own, and what is handed in stays."""

    def test_told_lists_are_new_each_time(self):
        house = house_of(*safe_parts())
        for call, arguments in ((worlds_behind, ("push", 1)), (doable_in, ((1,),))):
            with self.subTest(call.__name__):
                told = call(house, *arguments)
                due = list(told)
                self.assertIs(told.__class__, list)
                told.append("spoilt")
                again = call(house, *arguments)
                self.assertEqual(again, due)
                self.assertIsNot(again, told)
        self.assertEqual(house, safe_parts())

    def test_what_is_told_of_no_deeds_is_not_the_houses_list(self):
        house = house_of(*bare_parts(["a"]))
        doable_in(house, (0,)).append("spoilt")
        self.assertEqual(house, bare_parts(["a"]))

    def test_what_is_handed_in_stays(self):
        house = house_of(*safe_parts())
        before = copy.deepcopy(house)
        crowd = (1, 3)
        worlds_behind(house, "push", 1)
        crowd_behind(house, "push", crowd)
        doable_in(house, crowd)
        self.assertEqual(house, before)
        self.assertEqual(crowd, (1, 3))

    def test_the_same_asked_of_the_same_is_answered_the_same(self):
        house = house_of(*safe_parts())
        first = [crowd_behind(house, "push", (1, 3)) for _ in range(3)]
        self.assertEqual(first, [(1, 3)] * 3)


if __name__ == "__main__":
    unittest.main()
