"""Tests of sureplans.rows: points [2], [3], [12], [13] and [14]."""

import copy
import itertools
import random
import unittest

from sureplans.errors import NoDeed, NoWorld
from sureplans.houses import house_of
from sureplans.rows import known_in, may_run, row_goes
from tests.samples import (
    LETTERS, NEVER, YES, bare_parts, fact, goes_by_maps, kinds_of, lists_within, mapped_parts, maps_of,
    random_crowd, random_parts, refusal_of, ruled_samples, safe_parts, with_part)

NO_CROWDS = [
    (), (1, 0), (0, 3, 2), (1, 1), (0, 1, 3, 3), (-1,), (4,), (-1, 0), (0, 4), (0, 1, 2, 3, 4), (1 << 64,),
    (10 ** 5000,), (-10 ** 5000,), (True,), (False, 1),
]
NO_WORLDS = [-1, -2, 4, 5, 1 << 64, 10 ** 5000, -10 ** 5000, True, False]
NO_DEEDS = ["", "pull", "pres", "presss", "PRESS", "press ", "peep", "lamp", "press\n", "\u20ac", "x" * 2000]

# Worlds 0 to 3 go round by turn; step can be done in 0 and 1 alone, and leads to either of 2 and 3.
MAPS = [("turn", {0: [1], 1: [2], 2: [3], 3: [0]}), ("step", {0: [2, 3], 1: [2]}), ("stay", {3: [3]})]


def round_house(well=(3,)):
    return house_of(*mapped_parts(2, MAPS, [0], well))


class TestRowGoes(unittest.TestCase):
    """[12]"""

    def test_well(self):
        self.assertEqual(row_goes(round_house(), (0,), ["turn", "turn", "turn"]),
                         ("well", [(0,), (1,), (2,), (3,)]))
        self.assertEqual(row_goes(round_house([2, 3]), (0, 1), ["step"]), ("well", [(0, 1), (2, 3)]))
        self.assertEqual(row_goes(round_house([0, 3]), (0,), ["step", "turn"]), ("well", [(0,), (2, 3), (0, 3)]))

    def test_the_wish_need_not_hold_on_the_way(self):
        self.assertEqual(row_goes(round_house([1]), (0, 3), ["turn", "turn", "turn", "turn", "turn"])[0], "ends")
        self.assertEqual(row_goes(round_house([1]), (0,), ["turn"] * 5)[0], "well")
        self.assertEqual(row_goes(round_house([0]), (0,), ["turn"]), ("ends", 1))

    def test_crowds_are_tuples_of_whole_numbers_in_a_list(self):
        told = row_goes(house_of(*safe_parts()), (1, 3), ["push", "press"])
        self.assertEqual(kinds_of(told), kinds_of(("ends", 0)))
        told = row_goes(round_house([2, 3]), (0, 1), ["step"])
        self.assertEqual(kinds_of(told), kinds_of(("well", [(0, 1), (2, 3)])))
        told = row_goes(round_house(), (2,), ["step"])
        self.assertEqual(kinds_of(told), kinds_of(("stuck", 0, 2)))

    def test_a_row_of_no_deeds(self):
        self.assertEqual(row_goes(round_house([1, 3]), (1, 3), []), ("well", [(1, 3)]))
        self.assertEqual(row_goes(round_house([1, 3]), (0, 1, 2, 3), []), ("ends", 0))
        self.assertEqual(row_goes(house_of(*bare_parts(["a"])), (0, 1), []), ("well", [(0, 1)]))

    def test_stuck_at_the_first_place(self):
        self.assertEqual(row_goes(round_house(), (2,), ["step", "turn"]), ("stuck", 0, 2))
        self.assertEqual(row_goes(round_house(), (0, 1, 2, 3), ["step"]), ("stuck", 0, 2))
        self.assertEqual(row_goes(round_house(), (1, 3), ["step"]), ("stuck", 0, 3))

    def test_stuck_at_a_later_place_in_the_crowd_that_is_there(self):
        self.assertEqual(row_goes(round_house(), (0, 1), ["turn", "step"]), ("stuck", 1, 2))
        self.assertEqual(row_goes(round_house(), (0,), ["turn", "turn", "turn", "step"]), ("stuck", 3, 3))
        self.assertEqual(row_goes(round_house(), (0, 3), ["turn", "turn", "stay"]), ("stuck", 2, 1))

    def test_stuck_in_one_world_of_many(self):
        self.assertEqual(row_goes(round_house(), (0, 1, 3), ["step"]), ("stuck", 0, 3))
        self.assertEqual(row_goes(round_house(), (0, 3), ["stay"]), ("stuck", 0, 0))

    def test_the_first_deed_that_bars_is_told_not_a_later_one(self):
        self.assertEqual(row_goes(round_house(), (2, 3), ["stay", "step", "step"]), ("stuck", 0, 2))
        self.assertEqual(row_goes(round_house(), (3,), ["stay", "step", "step"]), ("stuck", 1, 3))

    def test_stuck_goes_ahead_of_how_it_ends(self):
        house = round_house([])
        self.assertEqual(row_goes(house, (0,), ["stay"]), ("stuck", 0, 0))
        self.assertEqual(row_goes(house, (3,), ["stay"]), ("ends", 3))

    def test_ends_with_the_least_world_of_the_last_crowd(self):
        self.assertEqual(row_goes(round_house([2]), (0, 1), ["step"]), ("ends", 3))
        self.assertEqual(row_goes(round_house([3]), (0, 1), ["step"]), ("ends", 2))
        self.assertEqual(row_goes(round_house([0, 2]), (0, 1, 2, 3), ["turn"]), ("ends", 1))

    def test_a_row_of_a_hundred_deeds(self):
        kind, crowds = row_goes(round_house([0]), (0,), ["turn"] * 100)
        self.assertEqual(kind, "well")
        self.assertEqual(crowds, [(place % 4,) for place in range(101)])
        self.assertEqual(row_goes(round_house([0]), (0,), ["turn"] * 99 + ["step"]), ("stuck", 99, 3))
        self.assertEqual(row_goes(round_house([1]), (0,), ["turn"] * 100), ("ends", 0))

    def test_a_crowd_of_all_worlds_of_ten_facts(self):
        facts = list(LETTERS[:10])
        deeds = [("so", YES, [[(YES, name, True) for name in facts[:9]]]),
                 ("chance", YES, [[(YES, name, truth) for name in facts] for truth in (True, False)])]
        house = house_of(facts, deeds, [], [0], fact("a"))
        everything = tuple(range(1024))
        self.assertEqual(row_goes(house, everything, ["so"]), ("well", [everything, (511, 1023)]))
        self.assertEqual(row_goes(house, everything, ["so", "chance"]), ("ends", 0))

    def test_no_deed(self):
        house = house_of(*safe_parts())
        for name in NO_DEEDS:
            for row in ([name], [name, "press"], ["press", "press", name]):
                with self.subTest(row):
                    self.assertIs(refusal_of(row_goes, house, (0, 1), row), NoDeed)

    def test_no_world(self):
        house = house_of(*safe_parts())
        for place, crowd in enumerate(NO_CROWDS):
            with self.subTest(place):
                self.assertIs(refusal_of(row_goes, house, crowd, ["press"]), NoWorld)
                self.assertIs(refusal_of(row_goes, house, crowd, []), NoWorld)

    def test_no_deed_goes_ahead_of_no_world(self):
        house = house_of(*safe_parts())
        for crowd in NO_CROWDS:
            self.assertIs(refusal_of(row_goes, house, crowd, ["pull"]), NoDeed)
            self.assertIs(refusal_of(row_goes, house, crowd, ["push", "press", "pull"]), NoDeed)

    def test_no_deed_behind_one_that_cannot_be_done(self):
        house = house_of(*safe_parts())
        self.assertEqual(row_goes(house, (0,), ["push", "press"]), ("stuck", 0, 0))
        self.assertIs(refusal_of(row_goes, house, (0,), ["push", "pull"]), NoDeed)
        self.assertIs(refusal_of(row_goes, house, (0,), ["push", "press", "pull"]), NoDeed)
        self.assertIs(refusal_of(row_goes, house, (4,), ["push", "pull"]), NoDeed)

    def test_no_deed_where_the_house_has_none(self):
        self.assertIs(refusal_of(row_goes, house_of(*bare_parts(["a"])), (0,), ["a"]), NoDeed)

    def test_houses_by_a_rule_and_by_chance(self):
        for maps, firsts, well in ruled_samples(60):
            house = house_of(*mapped_parts(2, maps, firsts, well))
            self.check(house, maps, well, [tuple(firsts), (0,), (1, 3), (0, 1, 2, 3)])
        chance = random.Random(12)
        for _ in range(60):
            parts = random_parts(chance)
            maps, well = maps_of(parts)
            self.check(house_of(*parts), maps, well, [random_crowd(chance, parts[0]) for _ in range(3)])

    def check(self, house, maps, well, crowds):
        names = [name for name, _ in maps]
        for many in range(4):
            for row in itertools.product(names, repeat=many):
                for crowd in crowds:
                    self.assertEqual(row_goes(house, crowd, list(row)), goes_by_maps(maps, well, crowd, row))


class TestMayRun(unittest.TestCase):
    """[13]"""

    def test_lists_of_worlds_sorted(self):
        house = round_house()
        self.assertEqual(may_run(house, 0, ["turn", "turn"]), [[0, 1, 2]])
        self.assertEqual(may_run(house, 0, ["step", "turn"]), [[0, 2, 3], [0, 3, 0]])
        self.assertEqual(may_run(house, 1, ["step"]), [[1, 2]])

    def test_a_row_of_no_deeds(self):
        self.assertEqual(may_run(round_house(), 2, []), [[2]])

    def test_a_list_ends_where_the_next_deed_cannot_be_done(self):
        house = round_house()
        self.assertEqual(may_run(house, 2, ["step"]), [[2]])
        self.assertEqual(may_run(house, 0, ["step", "stay"]), [[0, 2], [0, 3, 3]])
        self.assertEqual(may_run(house, 0, ["step", "stay", "turn", "turn"]), [[0, 2], [0, 3, 3, 0, 1]])

    def test_a_list_that_has_ended_does_not_go_on(self):
        house = round_house()
        # In 2 no stay can be done; the turns behind it could be, but are not come to.
        self.assertEqual(may_run(house, 2, ["stay", "turn", "turn"]), [[2]])
        self.assertEqual(may_run(house, 0, ["turn", "stay", "turn", "turn", "step", "turn"]), [[0, 1]])

    def test_each_list_once(self):
        deeds = [("go", YES, [[(YES, "a", True)], [(fact("b"), "a", True), (YES, "a", True)], []])]
        house = house_of(*with_part(bare_parts(["a", "b"]), 1, deeds))
        self.assertEqual(may_run(house, 0, ["go", "go"]), [[0, 0, 0], [0, 0, 1], [0, 1, 1]])

    def test_none_is_lost_where_worlds_meet_again(self):
        maps = [("part", {0: [1, 2]}), ("meet", {1: [3], 2: [3]})]
        house = house_of(*mapped_parts(2, maps, [0], [3]))
        self.assertEqual(may_run(house, 0, ["part", "meet"]), [[0, 1, 3], [0, 2, 3]])

    def test_sorted_as_lists_are(self):
        maps = [("go", {0: [0, 1, 2, 3], 1: [0, 3], 3: [1]})]
        house = house_of(*mapped_parts(2, maps, [0], [3]))
        told = may_run(house, 0, ["go", "go"])
        self.assertEqual(told, [[0, 0, 0], [0, 0, 1], [0, 0, 2], [0, 0, 3], [0, 1, 0], [0, 1, 3], [0, 2], [0, 3, 1]])

    def test_six_deeds_of_four_ways_each(self):
        facts = list(LETTERS[:10])
        ways = [[(YES, "a", first), (YES, "j", second)] for first in (False, True) for second in (False, True)]
        house = house_of(facts, [("go", YES, ways)], [], [0], YES)
        told = may_run(house, 0, ["go"] * 6)
        due = [[0, *run] for run in itertools.product([0, 1, 512, 513], repeat=6)]
        self.assertEqual(told, due)

    def test_by_a_rule_and_by_chance_against_lists_made_world_by_world(self):
        samples = [(mapped_parts(2, maps, firsts, well), maps) for maps, firsts, well in ruled_samples(60)]
        chance = random.Random(13)
        for _ in range(40):
            parts = random_parts(chance)
            samples.append((parts, maps_of(parts)[0]))
        for parts, maps in samples:
            house = house_of(*parts)
            for row in itertools.product([name for name, _ in maps], repeat=3):
                for world in range(1 << len(parts[0])):
                    self.assertEqual(may_run(house, world, list(row)), sorted(self.runs(dict(maps), world, row)))

    def runs(self, maps, world, row):
        if not row or world not in maps[row[0]]:
            return [[world]]
        return [[world] + run for there in maps[row[0]][world] for run in self.runs(maps, there, row[1:])]

    def test_refused(self):
        house = house_of(*safe_parts())
        for name in NO_DEEDS:
            with self.subTest(name):
                self.assertIs(refusal_of(may_run, house, 0, ["push", name]), NoDeed)
                self.assertIs(refusal_of(may_run, house, 4, ["push", name]), NoDeed)
        for place, world in enumerate(NO_WORLDS):
            with self.subTest(place):
                self.assertIs(refusal_of(may_run, house, world, ["press"]), NoWorld)
                self.assertIs(refusal_of(may_run, house, world, []), NoWorld)
                self.assertIs(refusal_of(may_run, house, world, ["pull"]), NoDeed)
        self.assertEqual(may_run(house, 3, []), [[3]])
        self.assertEqual(house, safe_parts())


class TestKnownIn(unittest.TestCase):
    """[14]"""

    def test_so_in_all_in_none_in_some(self):
        house = house_of(*bare_parts(["c", "a", "b"]))
        self.assertEqual(known_in(house, (1, 5)), [("c", True), ("a", False)])
        self.assertEqual(known_in(house, (2, 3)), [("a", True), ("b", False)])
        self.assertEqual(known_in(house, (4, 5, 6, 7)), [("b", True)])
        self.assertEqual(known_in(house, (1, 2)), [("b", False)])
        self.assertEqual(known_in(house, (0, 7)), [])

    def test_a_crowd_of_one_world(self):
        house = house_of(*bare_parts(["c", "a", "b"]))
        self.assertEqual(known_in(house, (0,)), [("c", False), ("a", False), ("b", False)])
        self.assertEqual(known_in(house, (6,)), [("c", False), ("a", True), ("b", True)])

    def test_a_crowd_of_all(self):
        for many in (1, 2, 6, 10):
            house = house_of(*bare_parts(list(LETTERS[:many])))
            self.assertEqual(known_in(house, tuple(range(1 << many))), [])

    def test_tuples_of_a_name_and_a_truth_in_a_list(self):
        house = house_of(*bare_parts(["a", "b"]))
        self.assertEqual(kinds_of(known_in(house, (1, 3))), kinds_of([("a", True)]))
        self.assertEqual(kinds_of(known_in(house, (1,))), kinds_of([("a", True), ("b", False)]))

    def test_what_the_deeds_can_do_is_no_matter(self):
        house = house_of(["a"], [("go", NEVER, [[]])], [], [0], NEVER)
        self.assertEqual(known_in(house, (1,)), [("a", True)])

    def test_ten_facts_by_chance(self):
        chance = random.Random(14)
        facts = list(LETTERS[:10])
        house = house_of(*bare_parts(facts))
        for many in (1, 1, 2, 2, 3, 4, 8, 64):
            crowd = tuple(sorted(chance.sample(range(1024), many)))
            due = []
            for place, name in enumerate(facts):
                truths = {world >> place & 1 for world in crowd}
                due += [(name, truths == {1})] if len(truths) == 1 else []
            self.assertEqual(known_in(house, crowd), due)

    def test_refused(self):
        house = house_of(*safe_parts())
        for place, crowd in enumerate(NO_CROWDS):
            with self.subTest(place):
                self.assertIs(refusal_of(known_in, house, crowd), NoWorld)


class TestToldAndHandedIn(unittest.TestCase):
    """[2]"""

    CALLS = [
        (row_goes, ((0, 1), ["step"])),
        (row_goes, ((0,), [])),
        (row_goes, ((2,), ["step"])),
        (may_run, (0, ["step", "stay"])),
        (may_run, (2, ["step", "stay"])),
        (may_run, (0, [])),
        (known_in, ((0,),)),
        (known_in, ((0, 1, 2, 3),)),
    ]

    def test_what_is_handed_in_stays(self):
        for call, arguments in self.CALLS:
            with self.subTest(call.__name__):
                house = round_house([0, 2, 3])
                before = copy.deepcopy((house, arguments))
                call(house, *arguments)
                self.assertEqual((house, arguments), before)

    def test_tellings_share_no_list_and_stay_the_same(self):
        for call, arguments in self.CALLS:
            with self.subTest(call.__name__):
                house = round_house([0, 2, 3])
                told, again = call(house, *arguments), call(house, *arguments)
                self.assertEqual(told, again)
                lists = lists_within(told) + lists_within(again) + lists_within((house, arguments))
                self.assertEqual(len({id(each) for each in lists}), len(lists))
                for each in lists_within(told):
                    each.append("spoilt")
                self.assertEqual(call(house, *arguments), again)

    def test_the_same_row_told_and_changed_later(self):
        row = ["step"]
        told = row_goes(round_house([2, 3]), (0,), row)
        row.append("turn")
        self.assertEqual(told, ("well", [(0,), (2, 3)]))


if __name__ == "__main__":
    unittest.main()
