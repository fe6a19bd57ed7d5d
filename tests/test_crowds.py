"""Tests of sureplans.crowds, which the stages share: crowds as whole numbers, and deeds done in them."""

import random
import unittest

from sureplans.crowds import (
    Step, chunks_of, crowd_of, is_in_chunks, least_world, number_of, outside, row_to, search, where, where_so, within)
from sureplans.houses import house_of, worlds_where
from tests.samples import (
    LETTERS, YES, bare_parts, behind_by_facts, fact, random_condition, random_crowd, random_parts, random_way,
    with_part)


class TestCrowds(unittest.TestCase):

    def test_a_crowd_and_its_number(self):
        for crowd, number in (((0,), 1), ((1,), 2), ((0, 1, 3), 11), ((1023,), 1 << 1023)):
            self.assertEqual(number_of(crowd), number)
            self.assertEqual(crowd_of(number), crowd)
        self.assertEqual(crowd_of(0), ())
        self.assertEqual(number_of([]), 0)

    def test_long_crowds(self):
        crowd = (0, 5, 1023, 1024, 2047, 2048, 4095, 70000, 1 << 19, (1 << 20) - 1)
        number = sum(1 << world for world in crowd)
        self.assertEqual(number_of(crowd[::-1]), number)
        self.assertEqual(crowd_of(number), crowd)
        chunks = chunks_of(number)
        self.assertEqual(sum(chunk << 1024 * at for at, chunk in enumerate(chunks)), number)
        self.assertTrue(all(chunk < 1 << 1024 for chunk in chunks))
        for world in (0, 1, 4, 5, 1022, 1023, 1024, 1025, 2048, 4095, 4096, 70000, 70001, 1 << 19, (1 << 20) - 1, 1 << 20, 1 << 30):
            self.assertIs(is_in_chunks(chunks, world), world in crowd)
        self.assertIs(is_in_chunks(chunks_of(0), 0), False)

    def test_one_crowd_and_another(self):
        self.assertEqual(least_world(number_of((5, 900))), 5)
        self.assertEqual(outside(0b1110, 0b0110), 0b1000)
        self.assertEqual(outside(0b0110, 0b1110), 0)
        self.assertTrue(within(0b0110, 0b1110))
        self.assertTrue(within(0b0110, 0b0110))
        self.assertFalse(within(0b1110, 0b0110))

    def test_where_a_fact_is_so(self):
        for many in (1, 2, 3, 10, 12):
            facts = list(LETTERS[:many])
            house = house_of(*bare_parts(facts))
            for name in facts:
                self.assertEqual(list(crowd_of(where_so(house, name))), worlds_where(house, fact(name)))

    def test_where_a_condition_holds(self):
        chance = random.Random(1)
        for _ in range(200):
            facts = chance.sample(LETTERS, chance.randint(1, 6))
            house = house_of(*bare_parts(facts))
            condition = random_condition(chance, facts, 5)
            self.assertEqual(list(crowd_of(where(house, condition))), worlds_where(house, condition))


class TestStep(unittest.TestCase):

    def test_crowds_of_ten_facts(self):
        chance = random.Random(2)
        facts = list(LETTERS[:10])
        for _ in range(5):
            ways = [random_way(chance, facts) for _ in range(4)]
            house = house_of(*with_part(bare_parts(facts), 1, [("go", YES, ways)]))
            step = Step(house, house[1][0])
            due = {world: {behind_by_facts(facts, way, world) for way in ways} for world in range(1024)}
            for many in (1, 2, 7, 64, 300, 1024):
                crowd = chance.sample(range(1024), many)
                behind = sorted(set().union(*[due[world] for world in crowd]))
                self.assertEqual(list(crowd_of(step.behind(number_of(crowd)))), behind)

    def test_crowds_of_great_houses(self):
        # Houses side by side may have more facts than those that are handed in: what is behind is told in another way.
        chance = random.Random(4)
        for many in (12, 13, 14):
            facts = [f"fact{letter}" for letter in "abcdefghijklmn"[:many]]
            for _ in range(3):
                need = ("either", fact(facts[0]), ("either", fact(facts[1]), fact(facts[-1])))
                ways = [random_way(chance, facts) for _ in range(3)]
                house = house_of(*with_part(bare_parts(facts), 1, [("go", need, ways)]))
                step = Step(house, house[1][0])
                self.assertEqual(step.is_great, many > 12)
                able = [world for world in range(1 << many) if world & 3 or world >> many - 1]
                self.assertEqual(list(crowd_of(step.need)), able)
                asked = chance.sample(able, 200)
                due = {world: {behind_by_facts(facts, way, world) for way in ways} for world in asked}
                for crowd in (asked, asked[:3], asked[:1]):
                    behind = sorted(set().union(*[due[world] for world in crowd]))
                    self.assertEqual(list(crowd_of(step.behind(number_of(crowd)))), behind)
                good = set(chance.sample(range(1 << many), 1 << many - 1)) | set().union(*[due[each] for each in asked[:50]])
                ahead = set(crowd_of(step.good_ahead([number_of(good)])))
                self.assertEqual({world for world in asked if world in ahead}, {each for each in asked if due[each] <= good})
                self.assertTrue(set(asked[:50]) <= ahead <= set(able))

    def test_where_it_can_be_done(self):
        chance = random.Random(3)
        for _ in range(100):
            parts = random_parts(chance)
            house = house_of(*parts)
            for deed in house[1]:
                step, crowd = Step(house, deed), random_crowd(chance, parts[0])
                self.assertEqual(step.can(number_of(crowd)), set(crowd) <= set(worlds_where(house, deed[1])))

    def test_nothing_is_behind_nothing(self):
        house = house_of(*with_part(bare_parts(["a"]), 1, [("go", YES, [[(YES, "a", True)]])]))
        self.assertEqual(Step(house, house[1][0]).behind(0), 0)


class TestSearch(unittest.TestCase):

    WAYS = {"start": [(0, "left"), (2, "right")], "left": [(1, "end"), (2, "start")], "right": [(0, "end")], "end": []}

    def test_each_is_found_once_in_order(self):
        found, there = search("start", self.WAYS.get, lambda each: each == "none")
        self.assertIsNone(there)
        self.assertEqual(list(found.items()), [("start", None), ("left", ("start", 0)), ("right", ("start", 2)),
                                               ("end", ("left", 1))])

    def test_it_ends_at_what_is_sought(self):
        found, there = search("start", self.WAYS.get, lambda each: each == "left")
        self.assertEqual((list(found), there), (["start", "left"], "left"))
        self.assertEqual(search("end", self.WAYS.get, lambda each: True), ({"end": None}, "end"))

    def test_the_row_to_what_was_found(self):
        steps = [Step(house_of(*bare_parts(["a"])), (name, YES, [[]])) for name in ("one", "two", "three")]
        found, there = search("start", self.WAYS.get, lambda each: each == "end")
        self.assertEqual(row_to(steps, found, there), ["one", "two"])
        self.assertEqual(row_to(steps, found, "start"), [])


if __name__ == "__main__":
    unittest.main()
