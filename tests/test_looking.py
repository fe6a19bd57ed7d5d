"""Tests of sureplans.looking: points [2], [3], [30] and [31]."""

import copy
import random
import unittest

from sureplans.errors import NoLook, NoNeed, NoWorld
from sureplans.houses import house_of
from sureplans.looking import looks_in, sides_of
from tests.samples import (
    LETTERS, NEVER, YES, bare_parts, fact, holds_by_python, kinds_of, random_crowd, random_parts, refusal_of,
    safe_parts, seen_by, sides_by_map, with_looks, with_part)

# Tuples that are no crowd of a house with two facts.
NO_CROWDS = [
    (), (1, 0), (0, 3, 2), (1, 1), (0, 1, 3, 3), (-1,), (4,), (-1, 0), (0, 4), (0, 1, 2, 3, 4), (1 << 64,),
    (10 ** 5000,), (-10 ** 5000,), (True,), (False, 1),
]
# Names of deeds and facts of the safe house among them.
NO_LOOKS = ["", "press", "push", "lamp", "door", "pee", "peepp", "PEEP", "peep ", "peep\n", "\u20ac", "x" * 2000]


def looks_house(looks, facts="ab"):
    """A house with looks told by worlds."""
    return house_of(*with_looks(bare_parts(list(facts)), looks))


class TestSidesOf(unittest.TestCase):
    """[30]"""

    def test_both_sides_with_worlds(self):
        house = looks_house([("peep", range(4), [1, 3])])
        self.assertEqual(sides_of(house, "peep", (0, 1, 2, 3)), ((1, 3), (0, 2)))
        self.assertEqual(sides_of(house, "peep", (0, 1)), ((1,), (0,)))
        self.assertEqual(sides_of(house, "peep", (0, 2, 3)), ((3,), (0, 2)))

    def test_the_one_side_without_any(self):
        house = looks_house([("peep", range(4), [1, 3])])
        self.assertEqual(sides_of(house, "peep", (0, 2)), ((), (0, 2)))
        self.assertEqual(sides_of(house, "peep", (0,)), ((), (0,)))

    def test_the_other_side_without_any(self):
        house = looks_house([("peep", range(4), [1, 3])])
        self.assertEqual(sides_of(house, "peep", (1, 3)), ((1, 3), ()))
        self.assertEqual(sides_of(house, "peep", (3,)), ((3,), ()))

    def test_looks_that_always_see_the_same(self):
        house = house_of(*with_part(bare_parts(["a", "b"]), 2, [("all", YES, YES), ("none", YES, NEVER)]))
        self.assertEqual(sides_of(house, "all", (0, 1, 2, 3)), ((0, 1, 2, 3), ()))
        self.assertEqual(sides_of(house, "none", (0, 1, 2, 3)), ((), (0, 1, 2, 3)))

    def test_all_worlds_of_ten_facts(self):
        house = house_of(*with_part(bare_parts(list(LETTERS[:10])), 2, [("peep", YES, fact("j"))]))
        everything = tuple(range(1024))
        self.assertEqual(sides_of(house, "peep", everything), (everything[512:], everything[:512]))

    def test_kinds(self):
        house = looks_house([("peep", range(4), [1, 3])])
        for crowd in ((0, 1), (0,), (1,)):
            told = sides_of(house, "peep", crowd)
            self.assertIs(told.__class__, tuple)
            self.assertEqual([side.__class__ for side in told], [tuple, tuple])
            self.assertEqual(kinds_of(told[0] + told[1]), kinds_of(tuple(sorted(crowd, reverse=True))))

    def test_a_look_called_like_a_fact(self):
        parts = with_part(bare_parts(["lamp", "door"]), 2, [("lamp", YES, fact("door")), ("door", YES, fact("lamp"))])
        house = house_of(*parts)
        self.assertEqual(sides_of(house, "lamp", (0, 1, 2, 3)), ((2, 3), (0, 1)))
        self.assertEqual(sides_of(house, "door", (0, 1, 2, 3)), ((1, 3), (0, 2)))

    def test_the_need_must_hold_in_each_world(self):
        house = looks_house([("peep", [1, 2], [1])])
        self.assertEqual(sides_of(house, "peep", (1, 2)), ((1,), (2,)))
        for crowd in ((0,), (3,), (0, 1), (1, 2, 3), (0, 1, 2, 3)):
            self.assertIs(refusal_of(sides_of, house, "peep", crowd), NoNeed)

    def test_a_need_that_never_holds(self):
        house = looks_house([("peep", [], [1])])
        for world in range(4):
            self.assertIs(refusal_of(sides_of, house, "peep", (world,)), NoNeed)

    def test_the_need_is_asked_and_not_what_is_seen(self):
        house = house_of(*safe_parts())
        self.assertEqual(sides_of(house, "feel", (1, 3)), ((3,), (1,)))
        self.assertIs(refusal_of(sides_of, house, "feel", (2, 3)), NoNeed)
        self.assertEqual(sides_of(house, "peep", (0, 1, 3)), ((1, 3), (0,)))

    def test_no_look(self):
        house = house_of(*safe_parts())
        for name in NO_LOOKS:
            with self.subTest(name):
                self.assertIs(refusal_of(sides_of, house, name, (0, 1)), NoLook)
        self.assertIs(refusal_of(sides_of, house_of(*bare_parts(["a"])), "a", (0,)), NoLook)

    def test_no_world(self):
        house = house_of(*safe_parts())
        for place, crowd in enumerate(NO_CROWDS):
            with self.subTest(place):
                self.assertIs(refusal_of(sides_of, house, "peep", crowd), NoWorld)

    def test_no_look_goes_ahead_of_no_world(self):
        house = house_of(*safe_parts())
        for place, crowd in enumerate(NO_CROWDS):
            with self.subTest(place):
                self.assertIs(refusal_of(sides_of, house, "push", crowd), NoLook)

    def test_no_world_goes_ahead_of_no_need(self):
        house = house_of(*safe_parts())
        for crowd in ((0, 4), (2, 0), (-1, 0), (0, 0), ()):
            self.assertIs(refusal_of(sides_of, house, "feel", crowd), NoWorld)

    def test_no_look_goes_ahead_of_no_need(self):
        # push is a deed, which could not be done there.
        self.assertIs(refusal_of(sides_of, house_of(*safe_parts()), "push", (0,)), NoLook)

    def test_houses_by_chance(self):
        chance = random.Random(30)
        refused = 0
        for _ in range(150):
            parts = random_parts(chance)
            house = house_of(*parts)
            for look in seen_by(parts):
                crowd = random_crowd(chance, parts[0])
                due = sides_by_map(look, crowd)
                if due is None:
                    refused += 1
                    self.assertIs(refusal_of(sides_of, house, look[0], crowd), NoNeed)
                else:
                    self.assertEqual(sides_of(house, look[0], crowd), due)
        self.assertGreater(refused, 30)


class TestLooksIn(unittest.TestCase):
    """[31]"""

    def test_looks_that_tell_something_in_the_houses_order(self):
        house = looks_house([("zeta", range(4), [1]), ("alpha", range(4), [0, 1, 2]), ("mid", range(4), [2, 3])])
        self.assertEqual(looks_in(house, (0, 1, 2, 3)), [("zeta", 1, 3), ("alpha", 3, 1), ("mid", 2, 2)])
        self.assertEqual(looks_in(house, (0, 1)), [("zeta", 1, 1)])
        self.assertEqual(looks_in(house, (2, 3)), [("alpha", 1, 1)])

    def test_looks_that_cannot_be_looked_at(self):
        house = looks_house([("one", [0, 1], [1]), ("two", [1, 2], [1]), ("all", range(4), [1])])
        self.assertEqual(looks_in(house, (0, 1)), [("one", 1, 1), ("all", 1, 1)])
        self.assertEqual(looks_in(house, (1, 2)), [("two", 1, 1), ("all", 1, 1)])
        self.assertEqual(looks_in(house, (0, 1, 2)), [("all", 1, 2)])

    def test_looks_that_tell_nothing(self):
        house = looks_house([("none", range(4), []), ("all", range(4), range(4)), ("some", range(4), [0, 3])])
        self.assertEqual(looks_in(house, (0, 1, 2, 3)), [("some", 2, 2)])
        self.assertEqual(looks_in(house, (0, 3)), [])
        self.assertEqual(looks_in(house, (1, 2)), [])

    def test_a_crowd_of_one_world(self):
        house = looks_house([("one", range(4), [1]), ("two", range(4), [2])])
        for world in range(4):
            self.assertEqual(looks_in(house, (world,)), [])

    def test_a_house_without_looks(self):
        self.assertEqual(looks_in(house_of(*bare_parts(["a", "b"])), (0, 1, 2, 3)), [])

    def test_kinds(self):
        house = looks_house([("one", range(4), [1]), ("two", range(4), [2])])
        told = looks_in(house, (0, 1, 2))
        self.assertEqual(kinds_of(told), kinds_of([("one", 1, 2), ("two", 1, 2)]))

    def test_crowds_of_more_than_sixty_four_worlds(self):
        facts = list(LETTERS[:10])
        looks = [("see" + name, YES, fact(name)) for name in facts[:5]]
        looks.append(("rare", ("not", fact("b")), ("both", fact("a"), ("both", fact("i"), fact("j")))))
        house = house_of(*with_part(bare_parts(facts), 2, looks))
        everything = tuple(range(1024))
        self.assertEqual(looks_in(house, everything), [("see" + name, 512, 512) for name in facts[:5]])
        for crowd in (everything, everything[:65], everything[300:], everything[::3], everything[::4]):
            due = []
            for name, need, seen in looks:
                yes = [world for world in crowd if holds_by_python(facts, seen, world)]
                if all(holds_by_python(facts, need, world) for world in crowd) and 0 < len(yes) < len(crowd):
                    due.append((name, len(yes), len(crowd) - len(yes)))
            self.assertEqual(looks_in(house, crowd), due)
        self.assertIn(("rare", 64, 448), looks_in(house, tuple(each for each in everything if not each & 2)))

    def test_no_world(self):
        house = house_of(*safe_parts())
        for place, crowd in enumerate(NO_CROWDS):
            with self.subTest(place):
                self.assertIs(refusal_of(looks_in, house, crowd), NoWorld)

    def test_no_world_in_a_house_without_looks(self):
        self.assertIs(refusal_of(looks_in, house_of(*bare_parts(["a"])), (2,)), NoWorld)

    def test_houses_by_chance(self):
        chance = random.Random(31)
        told = 0
        for _ in range(400):
            parts = random_parts(chance)
            crowd = random_crowd(chance, parts[0])
            due = []
            for look in seen_by(parts):
                sides = sides_by_map(look, crowd)
                if sides is not None and () not in sides:
                    due.append((look[0], len(sides[0]), len(sides[1])))
            self.assertEqual(looks_in(house_of(*parts), crowd), due)
            told += len(due)
        self.assertGreater(told, 30)


class TestToldAndHandedIn(unittest.TestCase):
    """[2] and [3]"""

    def test_what_is_handed_in_stays(self):
        house = house_of(*safe_parts())
        before = copy.deepcopy(house)
        sides_of(house, "peep", (0, 1))
        looks_in(house, (0, 1, 3))
        for call, arguments in ((sides_of, ("none", (0,))), (sides_of, ("peep", (9,))), (sides_of, ("feel", (0,))),
                                (looks_in, ((1, 0),))):
            self.assertIsNotNone(refusal_of(call, house, *arguments))
        self.assertEqual(house, before)

    def test_a_told_list_is_the_askers_own(self):
        house = house_of(*safe_parts())
        told, again = looks_in(house, (0, 1)), looks_in(house, (0, 1))
        self.assertEqual(told, [("peep", 1, 1)])
        self.assertEqual(told, again)
        self.assertIsNot(told, again)
        told.append("spoilt")
        self.assertEqual(looks_in(house, (0, 1)), again)

    def test_a_changed_house_is_another_house(self):
        house = house_of(*safe_parts())
        told = looks_in(house, (0, 1))
        house[2].clear()
        self.assertEqual(told, [("peep", 1, 1)])
        self.assertEqual(looks_in(house, (0, 1)), [])


if __name__ == "__main__":
    unittest.main()
