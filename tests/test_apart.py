"""Tests of sureplans.apart: points [2], [3], [21] and [22]."""

import copy
import itertools
import random
import unittest

from sureplans.apart import good_worlds, parting_row
from sureplans.errors import NoDeed, NoWorld, TooMany
from sureplans.houses import house_of
from sureplans.rows import row_goes
from tests.samples import (
    LETTERS, YES, bare_parts, clock, fact, goes_by_maps, kinds_of, mapped_parts, maps_of, random_crowd, random_parts,
    refusal_of, ruled_samples, safe_parts, two_counters, with_part)

NO_CROWDS = [(), (1, 0), (1, 1), (-1,), (0, 4), (4,), (1 << 64,), (10 ** 5000,), (-10 ** 5000,), (True,), (False, 1)]
NO_DEEDS = ["", "pull", "pres", "presss", "PRESS", "press ", "peep", "lamp", "\u20ac"]


def mapped_house(maps, well, many=2):
    return house_of(*mapped_parts(many, maps, [0], well))


class TestPartingRow(unittest.TestCase):
    """[21]"""

    def test_a_row_of_no_deeds(self):
        house = mapped_house([("go", {0: [0]})], [0])
        for one, other in (((0,), (1,)), ((1,), (0,)), ((0,), (0, 1)), ((1, 2, 3), (0,))):
            self.assertEqual(parting_row(house, one, other), [])

    def test_the_shortest_row(self):
        maps = [("slow", {0: [0], 1: [2], 2: [3]}), ("swift", {0: [0], 1: [3], 2: [0]})]
        self.assertEqual(parting_row(mapped_house(maps, [3]), (0,), (1,)), ["swift"])
        self.assertEqual(parting_row(mapped_house(maps[:1], [3]), (0,), (1,)), ["slow", "slow"])

    def test_the_first_of_the_shortest_by_the_places_in_the_house(self):
        both = {0: [0], 1: [3]}
        maps = [("zap", both), ("act", both)]
        self.assertEqual(parting_row(mapped_house(maps, [3]), (0,), (1,)), ["zap"])
        self.assertEqual(parting_row(mapped_house(maps[::-1], [3]), (0,), (1,)), ["act"])
        late = [("low", {0: [0], 2: [3]}), ("mid", {0: [0], 1: [2]}), ("high", {0: [0], 2: [3]})]
        self.assertEqual(parting_row(mapped_house(late, [3]), (0,), (1,)), ["mid", "low"])
        self.assertEqual(parting_row(mapped_house(late[::-1], [3]), (0,), (1,)), ["mid", "high"])

    def test_from_which_of_the_two_it_goes_well_is_no_matter(self):
        maps = [("on", {0: [1], 1: [1], 2: [2]})]
        house = mapped_house(maps, [1])
        self.assertEqual(parting_row(house, (0,), (2,)), ["on"])
        self.assertEqual(parting_row(house, (2,), (0,)), ["on"])

    def test_where_it_goes_well_from_both_or_from_none_it_does_not_part_them(self):
        maps = [("on", {0: [2], 1: [3]}), ("off", {2: [0], 3: [0]})]
        self.assertIsNone(parting_row(mapped_house(maps, [2, 3]), (0,), (1,)))
        self.assertIsNone(parting_row(mapped_house(maps, []), (0,), (1,)))
        self.assertIsNone(parting_row(mapped_house(maps, [0, 1, 2, 3]), (0,), (1,)))

    def test_none_for_crowds_alike(self):
        house = house_of(*safe_parts())
        for crowd in ((0,), (1, 3), (0, 1, 2, 3)):
            self.assertIsNone(parting_row(house, crowd, crowd))
            self.assertIsNone(parting_row(house, crowd, tuple(list(crowd))))

    def test_none_where_deeds_lead_back(self):
        maps = [("turn", {0: [1], 1: [0], 2: [3], 3: [2]})]
        self.assertIsNone(parting_row(mapped_house(maps, [1, 3]), (0,), (2,)))
        self.assertEqual(parting_row(mapped_house(maps, [1]), (0,), (2,)), ["turn"])

    def test_crowds_that_become_alike_are_parted_no_more(self):
        maps = [("meet", {0: [2], 1: [2], 2: [3]})]
        self.assertIsNone(parting_row(mapped_house(maps, [3]), (0,), (1,)))

    def test_a_deed_that_can_be_done_in_one_alone(self):
        house = mapped_house([("try", {0: [0]})], [0, 1])
        self.assertEqual(parting_row(house, (0,), (1,)), ["try"])
        self.assertEqual(parting_row(house, (1,), (0,)), ["try"])
        self.assertEqual(parting_row(house, (0,), (0, 1)), ["try"])
        self.assertIsNone(parting_row(mapped_house([("try", {0: [2]})], [0, 1]), (0,), (1,)))

    def test_from_there_a_crowd_and_nothing(self):
        maps = [("try", {0: [2]}), ("go", {2: [3], 0: [0], 1: [1]})]
        self.assertEqual(parting_row(mapped_house(maps, [3]), (0,), (1,)), ["try", "go"])
        self.assertEqual(parting_row(mapped_house(maps, [3]), (1,), (0,)), ["try", "go"])

    def test_the_way_is_the_crowds_not_each_world_alone(self):
        maps = [("luck", {0: [2, 3], 1: [3]})]
        self.assertEqual(parting_row(mapped_house(maps, [3]), (0,), (1,)), ["luck"])
        self.assertIsNone(parting_row(mapped_house(maps, [2]), (0,), (0, 1)))
        self.assertEqual(parting_row(mapped_house(maps, [3]), (0, 1), (1,)), ["luck"])

    def test_a_row_is_a_list_of_names(self):
        told = parting_row(mapped_house([("on", {0: [2], 1: [3]})], [2]), (0,), (1,))
        self.assertEqual(kinds_of(told), kinds_of(["on"]))

    def test_two_thousand_pairs(self):
        house = mapped_house(two_counters(40, 50), [], 8)
        self.assertIsNone(parting_row(house, (0,), (128,)))
        self.assertIsNone(parting_row(house, (128,), (0,)))
        house = mapped_house(clock(16, 125), [], 9)
        self.assertIsNone(parting_row(house, (0, 128), (256,)))

    def test_two_thousand_and_one_pairs(self):
        house = mapped_house(two_counters(29, 69), [], 8)
        self.assertIs(refusal_of(parting_row, house, (0,), (128,)), TooMany)
        self.assertIs(refusal_of(parting_row, house, (128,), (0,)), TooMany)
        house = mapped_house(clock(29, 69), [], 9)
        self.assertIs(refusal_of(parting_row, house, (0, 128), (256,)), TooMany)
        # From here just 28 * 69 pairs are come to.
        self.assertIsNone(parting_row(mapped_house(two_counters(29, 69), [], 8), (1,), (128,)))

    def test_the_two_thousandth_pair_parts_them(self):
        for one, other in (((0, 128), (256,)), ((256,), (0, 128))):
            house = mapped_house(clock(16, 125), [15, 128 + 124], 9)
            self.assertEqual(parting_row(house, one, other), ["tick"] * 1999)
            house = mapped_house(clock(29, 69), [27, 128 + 67], 9)
            self.assertEqual(parting_row(house, one, other), ["tick"] * 1999)

    def test_the_two_thousand_and_first_pair_parts_them(self):
        house = mapped_house(clock(29, 69), [28, 128 + 68], 9)
        self.assertIs(refusal_of(parting_row, house, (0, 128), (256,)), TooMany)
        self.assertEqual(parting_row(house, (1, 129), (256,)), ["tick"] * 1999)

    def test_pairs_turned_about_are_other_pairs(self):
        for many, due in ((31, None), (32, TooMany), (40, TooMany)):
            maps = two_counters(many, many)
            worlds = list(maps[0][1])
            swap = {world: [world + 128 if world < 128 else world - 128] for world in worlds}
            house = mapped_house(maps + [("swap", swap)], [], 8)
            # There are many * many pairs, and as many turned about.
            self.assertIs(refusal_of(parting_row, house, (0,), (128,)), due)

    def test_pairs_of_a_crowd_and_nothing_count_each_side(self):
        # The deeds lead on by a clock, and by try to the one crowd alone.
        maps = [("tick", {**clock(16, 61)[0][1]}), ("try", {0: [0], **{128 + at: [128 + at] for at in range(61)}})]
        house = mapped_house(maps, [], 9)
        # There are 976 pairs of both, and 976 of the crowd in which try was done beside nothing.
        self.assertIsNone(parting_row(house, (0, 128), (256,)))
        maps = [("tick", {**clock(17, 61)[0][1]}), maps[1]]
        self.assertIs(refusal_of(parting_row, mapped_house(maps, [], 9), (0, 128), (256,)), TooMany)

    def test_a_crowd_beside_nothing_and_nothing_beside_it_are_other_pairs(self):
        for many, due in ((33, None), (34, TooMany)):
            maps = two_counters(30, many) + [("try", {200: [0, 128]}), ("dare", {201: [0, 128]})]
            # By try all of 30 * many crowds are come to beside nothing, by dare the same with nothing ahead.
            self.assertIs(refusal_of(parting_row, mapped_house(maps, [], 8), (200,), (201,)), due)

    def test_pairs_alike_are_not_found(self):
        maps = two_counters(29, 69) + [("meet", {200: [0, 128], 201: [0, 128]})]
        house = mapped_house(maps, [], 8)
        self.assertIsNone(parting_row(house, (200,), (201,)))
        self.assertIsNone(parting_row(house, (0, 128), (0, 128)))
        self.assertIs(refusal_of(parting_row, house, (200,), (202,)), TooMany)

    def test_nothing_and_nothing_is_no_pair(self):
        # In the two thousand pairs that there are, zap can be done in neither.
        house = mapped_house(clock(16, 125) + [("zap", {300: [300]})], [], 9)
        self.assertIsNone(parting_row(house, (0, 128), (256,)))

    def test_no_world(self):
        house = house_of(*safe_parts())
        for place, crowd in enumerate(NO_CROWDS):
            with self.subTest(place):
                self.assertIs(refusal_of(parting_row, house, crowd, (0,)), NoWorld)
                self.assertIs(refusal_of(parting_row, house, (0,), crowd), NoWorld)
                self.assertIs(refusal_of(parting_row, house, crowd, crowd), NoWorld)

    def test_no_world_goes_ahead_of_too_many(self):
        house = mapped_house(two_counters(29, 69), [], 8)
        self.assertIs(refusal_of(parting_row, house, (0, 128), (1, 0)), NoWorld)
        self.assertIs(refusal_of(parting_row, house, (256,), (128,)), NoWorld)

    def test_by_a_rule_and_by_chance_against_rows_tried_one_by_one(self):
        samples = [(mapped_parts(2, *sample), sample[0], sample[2]) for sample in ruled_samples(40)]
        chance = random.Random(21)
        while len(samples) < 80:
            parts = random_parts(chance)
            if len(parts[1]) < 4:
                samples.append((parts, *maps_of(parts)))
        told = []
        for parts, maps, well in samples:
            house = house_of(*parts)
            rows = self.rows_and_worlds(maps, well, 1 << len(parts[0]))
            for _ in range(12):
                one, other = random_crowd(chance, parts[0]), random_crowd(chance, parts[0])
                told.append(parting_row(house, one, other))
                self.check(rows, one, other, told[-1])
        self.assertTrue({None, 0, 1, 2, 3} <= {None if row is None else len(row) for row in told})

    def rows_and_worlds(self, maps, well, many):
        """All rows of at most five deeds, each with the worlds from which it goes well."""
        names = [name for name, _ in maps]
        return [(list(row), {world for world in range(many) if goes_by_maps(maps, well, (world,), row)[0] == "well"})
                for deeds in range(6) for row in itertools.product(names, repeat=deeds)]

    def check(self, rows, one, other, told):
        parting = [row for row, good in rows if (set(one) <= good) != (set(other) <= good)]
        if parting:
            self.assertEqual(told, parting[0])
        else:
            self.assertTrue(told is None or len(told) > 5)


class TestGoodWorlds(unittest.TestCase):
    """[22]"""

    MAPS = [("on", {0: [1], 1: [2], 2: [3]}), ("luck", {0: [1, 3], 2: [3], 3: [3]})]

    def test_a_row_of_no_deeds(self):
        self.assertEqual(good_worlds(mapped_house(self.MAPS, [1, 3]), []), [1, 3])
        self.assertEqual(good_worlds(mapped_house(self.MAPS, []), []), [])
        self.assertEqual(good_worlds(house_of(*bare_parts(list(LETTERS[:10]))), []), list(range(1024)))

    def test_some(self):
        house = mapped_house(self.MAPS, [3])
        self.assertEqual(good_worlds(house, ["on"]), [2])
        self.assertEqual(good_worlds(house, ["on", "on"]), [1])
        self.assertEqual(good_worlds(house, ["luck"]), [2, 3])
        self.assertEqual(good_worlds(house, ["on", "luck"]), [1, 2])

    def test_chance_must_not_spoil_it(self):
        self.assertEqual(good_worlds(mapped_house(self.MAPS, [1]), ["luck"]), [])
        self.assertEqual(good_worlds(mapped_house(self.MAPS, [1, 3]), ["luck"]), [0, 2, 3])

    def test_none_where_a_deed_cannot_be_done(self):
        house = mapped_house(self.MAPS, [0, 1, 2, 3])
        self.assertEqual(good_worlds(house, ["on", "on", "on"]), [0])
        self.assertEqual(good_worlds(house, ["on", "on", "on", "on"]), [])
        self.assertEqual(good_worlds(house, ["luck", "luck"]), [2, 3])

    def test_all(self):
        maps = [("home", {world: [3] for world in range(4)})]
        self.assertEqual(good_worlds(mapped_house(maps, [3]), ["home", "home"]), [0, 1, 2, 3])

    def test_all_worlds_of_the_house_not_the_firsts_alone(self):
        house = house_of(["a", "b"], [("go", YES, [[(YES, "a", True)]])], [], [2], fact("a"))
        self.assertEqual(good_worlds(house, ["go"]), [0, 1, 2, 3])

    def test_a_hundred_deeds(self):
        house = mapped_house([("turn", {0: [1], 1: [2], 2: [3], 3: [0]})], [0, 3])
        self.assertEqual(good_worlds(house, ["turn"] * 100), [0, 3])
        self.assertEqual(good_worlds(house, ["turn"] * 99), [0, 1])

    def test_a_list_of_whole_numbers(self):
        told = good_worlds(mapped_house(self.MAPS, [3]), ["luck"])
        self.assertEqual(kinds_of(told), kinds_of([2, 3]))

    def test_no_deed(self):
        house = house_of(*safe_parts())
        for name in NO_DEEDS:
            for row in ([name], [name, "press"], ["push", "push", name]):
                with self.subTest(row):
                    self.assertIs(refusal_of(good_worlds, house, row), NoDeed)

    def test_from_a_crowd_a_row_goes_well_just_where_all_its_worlds_are_among_them(self):
        samples = [(mapped_parts(2, *sample), sample[0], sample[2]) for sample in ruled_samples(60)]
        chance = random.Random(22)
        for _ in range(60):
            parts = random_parts(chance)
            samples.append((parts, *maps_of(parts)))
        for parts, maps, well in samples:
            house = house_of(*parts)
            for row in itertools.product([name for name, _ in maps], repeat=3):
                good = good_worlds(house, list(row))
                worlds = range(1 << len(parts[0]))
                self.assertEqual(good, [world for world in worlds
                                        if goes_by_maps(maps, well, (world,), row)[0] == "well"])
                crowd = random_crowd(chance, parts[0])
                self.assertEqual(row_goes(house, crowd, list(row))[0] == "well", set(crowd) <= set(good))


class TestToldAndHandedIn(unittest.TestCase):
    """[2] and [3]"""

    def test_what_is_handed_in_stays(self):
        house = mapped_house(TestGoodWorlds.MAPS, [3])
        row = ["on", "luck"]
        before = copy.deepcopy((house, row))
        good_worlds(house, row)
        parting_row(house, (0, 1), (2,))
        self.assertEqual((house, row), before)

    def test_what_is_refused_changes_nothing(self):
        house = mapped_house(two_counters(29, 69), [], 8)
        row = ["one", "three"]
        before = copy.deepcopy((house, row))
        for _ in range(2):
            self.assertIs(refusal_of(parting_row, house, (0,), (128,)), TooMany)
            self.assertIs(refusal_of(good_worlds, house, row), NoDeed)
        self.assertEqual((house, row), before)

    def test_told_lists_are_new_each_time(self):
        house = mapped_house(TestGoodWorlds.MAPS, [3])
        row = ["luck"]
        for call, arguments in ((good_worlds, (row,)), (good_worlds, ([],)), (parting_row, ((0,), (2,))),
                                (parting_row, ((0,), (3,)))):
            told, again = call(house, *arguments), call(house, *arguments)
            self.assertEqual(told, again)
            self.assertIsNot(told, again)
            told.append("spoilt")
            self.assertEqual(call(house, *arguments), again)
        self.assertEqual(row, ["luck"])

    def test_looks_are_no_deeds(self):
        house = house_of(*with_part(safe_parts(), 1, []))
        self.assertIs(refusal_of(good_worlds, house, ["peep"]), NoDeed)
        self.assertIsNone(parting_row(house, (0,), (1,)))


if __name__ == "__main__":
    unittest.main()
