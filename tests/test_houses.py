"""Tests of sureplans.houses: points [2], [3], [5], [6], [7] and [8]."""

import copy
import random
import unittest

from sureplans.errors import NoHouse
from sureplans.houses import holds_in, house_of, worlds_where
from tests.samples import (
    LETTERS, NEVER, YES, bare_parts, fact, holds_by_python, kinds_of, lists_within, random_condition,
    random_parts, refusal_of, safe_parts, with_part)

STRANGE = fact("moon")


def all_facts_house(many):
    return house_of(*bare_parts(list(LETTERS[:many])))


def nested(condition, wrap, depth):
    """The condition with so many others around it."""
    for _ in range(depth):
        condition = wrap(condition)
    return condition


WRAPS = [
    lambda c: ("not", c),
    lambda c: ("both", c, YES),
    lambda c: ("both", YES, c),
    lambda c: ("either", c, NEVER),
    lambda c: ("either", NEVER, c),
]


class TestHouseTold(unittest.TestCase):
    """[5], and the first half of [7]."""

    def assert_told(self, parts):
        self.assertEqual(kinds_of(house_of(*parts)), kinds_of(tuple(parts)))

    def test_the_five_are_told_in_order_tuples_and_lists_where_due(self):
        self.assertEqual(house_of(*safe_parts()), (
            ["lamp", "door"],
            [
                ("press", ("yes",), [[(("fact", "lamp"), "lamp", False),
                                      (("not", ("fact", "lamp")), "lamp", True)]]),
                ("push", ("fact", "lamp"), [[(("yes",), "door", True)], []]),
            ],
            [("peep", ("yes",), ("fact", "lamp")), ("feel", ("fact", "lamp"), ("fact", "door"))],
            [0, 1, 3],
            ("both", ("fact", "lamp"), ("fact", "door")),
        ))
        self.assert_told(safe_parts())

    def test_one_fact_and_nothing_else(self):
        self.assertEqual(house_of(["a"], [], [], [1], ("yes",)), (["a"], [], [], [1], ("yes",)))

    def test_ten_facts(self):
        self.assert_told((list(LETTERS[:10]), [], [], [0, 512, 1023], fact("j")))

    def test_twelve_deeds(self):
        deeds = [(letter, YES, [[(YES, "lamp", True)]]) for letter in LETTERS]
        self.assert_told(with_part(safe_parts(), 1, deeds))

    def test_six_looks(self):
        self.assert_told(with_part(safe_parts(), 2, [(letter, YES, NEVER) for letter in "uvwxyz"]))

    def test_sixty_four_firsts(self):
        self.assert_told(with_part(bare_parts(list("abcdef")), 3, list(range(64))))

    def test_four_ways_and_ways_without_changes(self):
        for ways in ([[]], [[], []], [[(YES, "lamp", True)], [], [(NEVER, "door", False)], []]):
            with self.subTest(ways):
                self.assert_told(with_part(safe_parts(), 1, [("press", YES, ways)]))

    def test_names_of_eight_letters_and_names_like_the_kinds(self):
        facts = ["abcdefgh", "yes", "fact", "not", "both", "either"]
        wish = ("both", fact("yes"), ("not", ("either", fact("not"), fact("fact"))))
        self.assert_told((facts, [("yes", YES, [[]])], [("not", YES, YES)], [0], wish))

    def test_deeds_and_looks_may_be_called_like_facts(self):
        self.assert_told(with_part(safe_parts(), 1, [("lamp", YES, [[]])]))
        self.assert_told(with_part(safe_parts(), 2, [("door", YES, YES)]))

    def test_more_than_the_limits_is_no_cause(self):
        names = [first + second for first in "ab" for second in "abcdefg"]
        deeds = [(name, YES, [[]] * 5) for name in names[:13]]
        looks = [("look" + name, YES, YES) for name in names[:7]]
        self.assert_told((list(LETTERS[:11]), deeds, looks, list(range(65)), YES))

    def test_houses_by_chance(self):
        chance = random.Random(5)
        for _ in range(100):
            self.assert_told(random_parts(chance))


class TestNoHouse(unittest.TestCase):
    """[7], each cause by itself, and [3]."""

    def assert_no_house(self, *parts):
        before = copy.deepcopy(parts)
        self.assertIs(refusal_of(house_of, *parts), NoHouse)
        self.assertEqual(parts, before)

    def assert_no_house_with(self, place, part):
        self.assert_no_house(*with_part(safe_parts(), place, part))

    def test_a_fact_twice(self):
        self.assert_no_house(*bare_parts(["a", "a"]))
        self.assert_no_house(*bare_parts(["a", "b", "c", "a"]))

    def test_a_deed_twice(self):
        deeds = safe_parts()[1]
        self.assert_no_house_with(1, [deeds[0], deeds[0]])
        self.assert_no_house_with(1, deeds + [("press", NEVER, [[]])])

    def test_a_look_twice(self):
        looks = safe_parts()[2]
        self.assert_no_house_with(2, [looks[1], looks[1]])
        self.assert_no_house_with(2, looks + [("peep", NEVER, YES)])

    def test_a_look_called_as_a_deed_is(self):
        self.assert_no_house_with(2, [("press", YES, YES)])
        self.assert_no_house_with(2, safe_parts()[2] + [("push", YES, YES)])

    def test_a_fact_that_is_none_in_a_deeds_need(self):
        self.assert_no_house_with(1, [("press", STRANGE, [[]])])
        self.assert_no_house_with(1, safe_parts()[1] + [("pull", STRANGE, [[]])])

    def test_a_fact_that_is_none_in_a_when(self):
        self.assert_no_house_with(1, [("press", YES, [[(STRANGE, "lamp", True)]])])
        later = [[], [(YES, "lamp", True), (STRANGE, "lamp", False)]]
        self.assert_no_house_with(1, [("press", YES, later)])

    def test_a_fact_that_is_none_in_a_change(self):
        self.assert_no_house_with(1, [("press", YES, [[(YES, "moon", True)]])])
        later = [[], [(YES, "lamp", True), (YES, "moon", False)]]
        self.assert_no_house_with(1, [("press", YES, later)])

    def test_a_fact_that_is_none_in_a_looks_need(self):
        self.assert_no_house_with(2, [("peep", STRANGE, YES)])
        self.assert_no_house_with(2, safe_parts()[2] + [("hear", STRANGE, YES)])

    def test_a_fact_that_is_none_in_what_is_seen(self):
        self.assert_no_house_with(2, [("peep", YES, STRANGE)])
        self.assert_no_house_with(2, safe_parts()[2] + [("hear", YES, STRANGE)])

    def test_a_fact_that_is_none_in_the_wish(self):
        self.assert_no_house_with(4, STRANGE)

    def test_names_of_deeds_and_looks_are_no_facts(self):
        self.assert_no_house_with(4, fact("press"))
        self.assert_no_house_with(4, fact("peep"))
        self.assert_no_house_with(1, [("press", YES, [[(YES, "press", True)]])])

    def test_a_fact_that_is_none_deep_within_a_condition(self):
        for place, wrap in enumerate(WRAPS):
            for depth in (1, 2, 20):
                with self.subTest(place, depth=depth):
                    deep = nested(STRANGE, wrap, depth)
                    self.assert_no_house_with(1, [("press", deep, [[]])])
                    self.assert_no_house_with(1, [("press", YES, [[(deep, "lamp", True)]])])
                    self.assert_no_house_with(2, [("peep", deep, YES)])
                    self.assert_no_house_with(2, [("peep", YES, deep)])
                    self.assert_no_house_with(4, deep)

    def test_a_fact_that_is_none_where_it_would_not_be_asked(self):
        self.assert_no_house_with(4, ("either", YES, STRANGE))
        self.assert_no_house_with(4, ("both", NEVER, STRANGE))
        self.assert_no_house_with(1, [("press", NEVER, [[(NEVER, "moon", True)]])])

    def test_a_deed_without_ways(self):
        self.assert_no_house_with(1, [("press", YES, [])])
        self.assert_no_house_with(1, safe_parts()[1] + [("pull", NEVER, [])])

    def test_a_first_that_is_no_world(self):
        for firsts in ([-1], [4], [-1, 0], [0, 4], [0, 1, 2, 3, 4], [1 << 64], [10 ** 5000], [-10 ** 5000]):
            with self.subTest(len(firsts)):
                self.assert_no_house_with(3, firsts)
        self.assertIsNone(refusal_of(house_of, *with_part(safe_parts(), 3, [3])))

    def test_a_first_just_beyond_at_one_fact_and_at_ten(self):
        for many in (1, 10):
            parts = bare_parts(list(LETTERS[:many]))
            self.assertIsNone(refusal_of(house_of, *with_part(parts, 3, [(1 << many) - 1])))
            self.assert_no_house(*with_part(parts, 3, [1 << many]))

    def test_a_truth_is_no_first(self):
        self.assert_no_house_with(3, [True])
        self.assert_no_house_with(3, [False, 1])

    def test_firsts_falling(self):
        self.assert_no_house_with(3, [1, 0])
        self.assert_no_house_with(3, [0, 3, 2])

    def test_a_first_twice(self):
        self.assert_no_house_with(3, [1, 1])
        self.assert_no_house_with(3, [0, 1, 3, 3])

    def test_no_firsts(self):
        self.assert_no_house_with(3, [])


class TestHousesOwnLists(unittest.TestCase):
    """[2]: nothing that is handed in is changed or kept, and each list is new."""

    def spoil(self, value):
        for found in lists_within(value):
            found.append("spoilt")

    def test_what_is_handed_in_stays(self):
        parts = safe_parts()
        house_of(*parts)
        self.assertEqual(kinds_of(parts), kinds_of(safe_parts()))

    def test_changing_what_was_handed_in_changes_nothing_of_the_house(self):
        parts = safe_parts()
        house = house_of(*parts)
        self.spoil(parts)
        self.assertEqual(house, safe_parts())

    def test_changing_the_house_changes_nothing_of_what_was_handed_in(self):
        parts = safe_parts()
        self.spoil(house_of(*parts))
        self.assertEqual(parts, safe_parts())

    def test_houses_share_no_list_with_one_another_or_with_the_parts(self):
        parts = safe_parts()
        lists = [found for value in (parts, house_of(*parts), house_of(*parts))
                 for found in lists_within(value)]
        self.assertEqual(len(lists), 3 * len(lists_within(safe_parts())))
        self.assertEqual(len({id(found) for found in lists}), len(lists))

    def test_one_list_handed_in_twice_is_two_in_the_house(self):
        way = [(YES, "lamp", True)]
        ways = [way, way]
        house = house_of(*with_part(safe_parts(), 1, [("one", YES, ways), ("two", YES, ways)]))
        lists = lists_within(house)
        self.assertEqual(len({id(found) for found in lists}), len(lists))

    def test_asking_a_house_changes_nothing_of_it(self):
        house = house_of(*safe_parts())
        told = worlds_where(house, fact("lamp"))
        told.append(9)
        holds_in(house, fact("lamp"), 1)
        self.assertEqual(house, safe_parts())
        self.assertEqual(worlds_where(house, fact("lamp")), [1, 3])


class TestConditions(unittest.TestCase):
    """[6]"""

    def holding(self, condition, many=2):
        """What holds_in tells for each world, in order."""
        house = all_facts_house(many)
        return [holds_in(house, condition, world) for world in range(1 << many)]

    def test_yes(self):
        self.assertEqual(self.holding(YES), [True, True, True, True])

    def test_the_first_fact_is_the_least_bit(self):
        self.assertEqual(self.holding(fact("a")), [False, True, False, True])
        self.assertEqual(self.holding(fact("b")), [False, False, True, True])

    def test_the_places_are_the_houses_not_the_letters(self):
        house = house_of(*bare_parts(["z", "a", "m"]))
        self.assertEqual([worlds_where(house, fact(name)) for name in "zam"],
                         [[1, 3, 5, 7], [2, 3, 6, 7], [4, 5, 6, 7]])

    def test_not(self):
        self.assertEqual(self.holding(("not", fact("a"))), [True, False, True, False])
        self.assertEqual(self.holding(NEVER), [False, False, False, False])

    def test_both(self):
        self.assertEqual(self.holding(("both", fact("a"), fact("b"))), [False, False, False, True])

    def test_either(self):
        self.assertEqual(self.holding(("either", fact("a"), fact("b"))), [False, True, True, True])

    def test_the_order_within_both_and_either_is_kept(self):
        self.assertEqual(self.holding(("both", fact("a"), ("not", fact("b")))), [False, True, False, False])
        self.assertEqual(self.holding(("both", ("not", fact("a")), fact("b"))), [False, False, True, False])
        self.assertEqual(self.holding(("either", fact("a"), ("not", fact("b")))), [True, True, False, True])
        self.assertEqual(self.holding(("either", ("not", fact("a")), fact("b"))), [True, False, True, True])

    def test_facts_called_like_kinds(self):
        house = house_of(*bare_parts(["yes", "not", "both"]))
        self.assertEqual([worlds_where(house, fact(name)) for name in ("yes", "not", "both")],
                         [[1, 3, 5, 7], [2, 3, 6, 7], [4, 5, 6, 7]])

    def test_truths_are_told_as_such(self):
        house = all_facts_house(10)
        for condition in (YES, NEVER, fact("j"), ("both", YES, fact("j")), ("either", fact("j"), NEVER)):
            for world in (0, 511, 512, 1023):
                with self.subTest(condition, world=world):
                    self.assertIsInstance(holds_in(house, condition, world), bool)

    def test_one_within_another_to_twenty_one(self):
        house = all_facts_house(2)
        for place, wrap in enumerate(WRAPS):
            for depth in range(22):
                with self.subTest(place, depth=depth):
                    turned = wrap is WRAPS[0] and depth % 2 == 1
                    deep = nested(fact("b"), wrap, depth)
                    self.assertIs(holds_in(house, deep, 1), turned)
                    self.assertIs(holds_in(house, deep, 2), not turned)
                    self.assertEqual(worlds_where(house, deep), [0, 1] if turned else [2, 3])

    def test_conditions_by_chance_as_python_reckons_them(self):
        chance = random.Random(6)
        for _ in range(300):
            facts = chance.sample(LETTERS, chance.randint(1, 5))
            house = house_of(*bare_parts(facts))
            condition = random_condition(chance, facts, 6)
            for world in range(1 << len(facts)):
                due = holds_by_python(facts, condition, world)
                self.assertIs(holds_in(house, condition, world), due, (facts, condition, world))


class TestWorldsWhere(unittest.TestCase):
    """[8]"""

    def test_all_and_none(self):
        for many in (1, 2, 10):
            house = all_facts_house(many)
            self.assertEqual(worlds_where(house, YES), list(range(1 << many)))
            self.assertEqual(worlds_where(house, NEVER), [])

    def test_all_worlds_count_not_the_firsts_alone(self):
        house = house_of(["a", "b"], [], [], [2], fact("a"))
        self.assertEqual(worlds_where(house, fact("a")), [1, 3])

    def test_worlds_are_told_rising(self):
        house = all_facts_house(3)
        self.assertEqual(worlds_where(house, ("either", fact("c"), fact("a"))), [1, 3, 4, 5, 6, 7])
        self.assertEqual(worlds_where(house, ("both", fact("c"), ("not", fact("a")))), [4, 6])

    def test_each_list_is_a_new_one(self):
        house = all_facts_house(2)
        for condition in (YES, NEVER, fact("a")):
            told = worlds_where(house, condition)
            due = list(told)
            told.append(9)
            self.assertIsInstance(told, list)
            self.assertEqual(worlds_where(house, condition), due)

    def test_by_chance_as_python_reckons_them(self):
        chance = random.Random(8)
        for _ in range(200):
            facts = chance.sample(LETTERS, chance.randint(1, 6))
            condition = random_condition(chance, facts, 5)
            due = [world for world in range(1 << len(facts)) if holds_by_python(facts, condition, world)]
            self.assertEqual(worlds_where(house_of(*bare_parts(facts)), condition), due)


if __name__ == "__main__":
    unittest.main()
