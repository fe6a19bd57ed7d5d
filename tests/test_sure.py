"""Tests of sureplans.sure: points [2], [3], [15], [16] and [17]."""

import copy
import itertools
import math
import random
import unittest

from sureplans.errors import NoWorld, TooMany
from sureplans.houses import house_of
from sureplans.never import never_shows
from sureplans.rows import row_goes
from sureplans.sure import how_many_rows, least_deeds, sure_row
from tests.samples import (
    LETTERS, NEVER, YES, bare_parts, clock, crowds_by_maps, fact, goes_by_maps, kinds_of, let_by_maps, lists_within,
    mapped_parts, maps_of, only_in, random_parts, refusal_of, ruled_samples, safe_parts, two_counters, with_part)

NO_CROWDS = [(), (1, 0), (1, 1), (-1,), (0, 4), (4,), (1 << 64,), (10 ** 5000,), (True,)]


def counters_house(many, others, well):
    return house_of(*mapped_parts(8, two_counters(many, others), [0, 128], well))


def clock_house(many, others, well):
    return house_of(*mapped_parts(9, clock(many, others), [0, 128], well))


def mapped_house(maps, firsts, well, many=2):
    return house_of(*mapped_parts(many, maps, firsts, well))


def forking_house(count):
    """A house whose shortest rows have so many deeds, at each of which two lead on, and meet again at each second."""
    maps = [(name, {}) for name in ("left", "right", "down")]
    for at in range(0, 3 * (count // 2), 3):
        maps[0][1][at], maps[1][1][at] = [at + 1], [at + 2]
        maps[2][1][at + 1], maps[2][1][at + 2] = [at + 3], [at + 3]
    return mapped_house(maps, [0], [3 * (count // 2)], 10)


class TestSureRow(unittest.TestCase):
    """[15]"""

    def test_the_wish_holds_in_all_firsts_already(self):
        self.assertEqual(sure_row(house_of(*bare_parts(["a"]))), ("row", []))
        self.assertEqual(sure_row(mapped_house([("go", {1: [1], 2: [1]})], [1, 2], [1, 2])), ("row", []))

    def test_the_wish_holds_in_some_firsts_alone(self):
        self.assertEqual(sure_row(mapped_house([("go", {1: [1], 2: [1]})], [1, 2], [1])), ("row", ["go"]))

    def test_a_row_is_a_list_of_names(self):
        maps = [("one", {0: [1]}), ("two", {1: [2]}), ("three", {2: [3]})]
        told = sure_row(mapped_house(maps, [0], [3]))
        self.assertEqual(kinds_of(told), kinds_of(("row", ["one", "two", "three"])))

    def test_it_goes_well_whatever_the_world_was_and_chance_did(self):
        maps = [("luck", {0: [2, 3], 1: [2, 3]}), ("safe", {0: [1], 1: [1], 2: [2], 3: [2]}),
                ("last", {1: [3], 2: [3]})]
        house = mapped_house(maps, [0, 1], [3])
        # By luck alone it may end well with one deed, but may not.
        self.assertEqual(sure_row(house), ("row", ["safe", "last"]))

    def test_the_shortest_goes_ahead_of_the_first_by_places(self):
        maps = [("slow", {0: [1], 1: [2], 2: [3]}), ("swift", {0: [3]})]
        self.assertEqual(sure_row(mapped_house(maps, [0], [3])), ("row", ["swift"]))

    def test_of_more_shortest_rows_the_first_by_the_places_in_the_house(self):
        both = {0: [3]}
        self.assertEqual(sure_row(mapped_house([("zap", both), ("act", both)], [0], [3])), ("row", ["zap"]))
        self.assertEqual(sure_row(mapped_house([("act", both), ("zap", both)], [0], [3])), ("row", ["act"]))

    def test_a_later_place_of_the_row_decides_too(self):
        maps = [("zap", {0: [1]}), ("one", {1: [0]}), ("two", {1: [2]}), ("pay", {1: [2]}), ("act", {2: [3]}),
                ("bow", {2: [3]})]
        self.assertEqual(sure_row(mapped_house(maps, [0], [3])), ("row", ["zap", "two", "act"]))
        self.assertEqual(sure_row(mapped_house(maps[::-1], [0], [3])), ("row", ["zap", "pay", "bow"]))

    def test_the_first_place_of_the_row_decides_ahead_of_later_ones(self):
        maps = [("low", {2: [3]}), ("mid", {0: [1]}), ("high", {0: [2], 1: [3]})]
        # mid high and high low are as short; mid stands ahead of high.
        self.assertEqual(sure_row(mapped_house(maps, [0], [3])), ("row", ["mid", "high"]))

    def test_a_row_to_a_crowd_within_the_wish_not_to_all_of_it(self):
        maps = [("go", {0: [1]})]
        self.assertEqual(sure_row(mapped_house(maps, [0], [1, 2, 3])), ("row", ["go"]))

    def test_a_deed_must_be_doable_in_each_world_of_the_crowd(self):
        maps = [("go", {0: [3]}), ("merge", {0: [0], 1: [0]})]
        self.assertEqual(sure_row(mapped_house(maps, [0, 1], [3])), ("row", ["merge", "go"]))

    def assert_never(self, maps, firsts, well, many=2):
        kind, paper = sure_row(mapped_house(maps, firsts, well, many))
        self.assertEqual(kind, "never")
        self.assertIs(paper.__class__, list)
        self.assertTrue(all(crowd.__class__ is tuple for crowd in paper))
        self.assertTrue(let_by_maps(maps, set(well), firsts, paper))
        self.assertIs(never_shows(mapped_house(maps, firsts, well, many), paper), True)
        return paper

    def test_no_row_without_deeds(self):
        self.assertEqual(self.assert_never([], [0, 1], [1]), [(0, 1)])

    def test_no_row_where_no_deed_can_be_done(self):
        self.assertEqual(self.assert_never([("go", {1: [1]})], [0, 1], [1]), [(0, 1)])

    def test_no_row_though_each_first_alone_has_one(self):
        maps = [("turn", {0: [1], 1: [0]}), ("stay", {0: [0], 1: [1]})]
        self.assert_never(maps, [0, 1], [1])

    def test_no_row_where_deeds_lead_back(self):
        maps = [("turn", {0: [1], 1: [2], 2: [0]}), ("back", {1: [0], 2: [1], 0: [0]})]
        self.assert_never(maps, [0], [3])

    def test_no_row_where_chance_may_always_spoil_it(self):
        self.assert_never([("try", {0: [0, 3], 3: [0, 3]})], [0], [3])

    def test_two_thousand_crowds(self):
        paper = self.assert_never(two_counters(40, 50), [0, 128], [], 8)
        self.assertLessEqual(len(paper), 2000)
        self.assert_never(clock(16, 125), [0, 128], [], 9)

    def test_two_thousand_and_one(self):
        self.assertIs(refusal_of(sure_row, counters_house(29, 69, [])), TooMany)
        self.assertIs(refusal_of(sure_row, clock_house(29, 69, [])), TooMany)

    def test_the_two_thousandth_is_well_and_the_last(self):
        self.assertEqual(sure_row(counters_house(40, 50, [39, 128 + 49])), ("row", ["one"] * 39 + ["two"] * 49))
        self.assertEqual(sure_row(clock_house(16, 125, [15, 128 + 124])), ("row", ["tick"] * 1999))

    def test_the_two_thousand_and_first_is_well(self):
        self.assertIs(refusal_of(sure_row, counters_house(29, 69, [28, 128 + 68])), TooMany)
        self.assertIs(refusal_of(sure_row, clock_house(29, 69, [28, 128 + 68])), TooMany)

    def test_a_well_crowd_just_ahead_of_too_many(self):
        house = counters_house(29, 69, [27, 128 + 68])
        self.assertEqual(sure_row(house), ("row", ["one"] * 27 + ["two"] * 68))
        self.assertEqual(sure_row(clock_house(29, 69, [27, 128 + 67])), ("row", ["tick"] * 1999))

    def test_crowds_are_found_in_the_order_of_the_houses_deeds(self):
        # Turned about, the other crowd of 95 deeds is the two thousandth.
        deeds = two_counters(29, 69)[::-1]
        house = mapped_house(deeds, [0, 128], [28, 128 + 67], 8)
        self.assertEqual(sure_row(house), ("row", ["two"] * 67 + ["one"] * 28))
        # (63, j) and (j, 63) stand first and last of their depth, of which the 2000th is in the midst.
        maps = two_counters(100, 100)
        self.assertEqual(sure_row(mapped_house(maps, [0, 128], [62, 128], 8)), ("row", ["one"] * 62))
        self.assertIs(refusal_of(sure_row, mapped_house(maps, [0, 128], [0, 128 + 62], 8)), TooMany)
        self.assertEqual(sure_row(mapped_house(maps[::-1], [0, 128], [0, 128 + 62], 8)), ("row", ["two"] * 62))
        # There are 1953 crowds of fewer than 62 deeds, and so 47 of 62 deeds are found.
        self.assertEqual(sure_row(mapped_house(maps, [0, 128], [16, 128 + 46], 8)),
                         ("row", ["one"] * 16 + ["two"] * 46))
        self.assertIs(refusal_of(sure_row, mapped_house(maps, [0, 128], [15, 128 + 47], 8)), TooMany)

    def test_a_row_longer_than_a_hundred_may_be_handed_in(self):
        house = clock_house(16, 125, [15, 128 + 124])
        kind, crowds = row_goes(house, (0, 128), sure_row(house)[1])
        self.assertEqual((kind, len(crowds)), ("well", 2000))

    def test_houses_by_a_rule_and_by_chance(self):
        samples = [(mapped_parts(2, *sample), sample[0], sample[2]) for sample in ruled_samples(200)]
        chance = random.Random(15)
        for _ in range(120):
            parts = random_parts(chance)
            samples.append((parts, *maps_of(parts)))
        for parts, maps, well in samples:
            self.check(house_of(*parts), maps, well, parts[3])

    def check(self, house, maps, well, firsts):
        rows = [row for crowd, row in crowds_by_maps(maps, tuple(firsts)).items() if set(crowd) <= well]
        kind, told = sure_row(house)
        if rows:
            self.assertEqual((kind, told), ("row", rows[0]))
        else:
            self.assertEqual(kind, "never")
            self.assertTrue(let_by_maps(maps, well, firsts, told))


class TestHowManyRows(unittest.TestCase):
    """[16]"""

    def test_none(self):
        self.assertEqual(how_many_rows(mapped_house([("turn", {0: [1], 1: [0]})], [0], [3])), 0)
        self.assertEqual(how_many_rows(mapped_house([], [0, 1], [1])), 0)

    def test_one(self):
        self.assertEqual(how_many_rows(mapped_house([("go", {0: [1]})], [0], [1])), 1)

    def test_a_row_of_no_deeds_is_one(self):
        self.assertEqual(how_many_rows(mapped_house([("go", {0: [0]}), ("stay", {0: [0]})], [0], [0])), 1)

    def test_many(self):
        maps = [(name, {0: [3]}) for name in LETTERS]
        self.assertEqual(how_many_rows(mapped_house(maps, [0], [3])), 12)
        self.assertEqual(how_many_rows(mapped_house(maps, [0], [3, 2])), 12)

    def test_a_whole_number_is_told(self):
        for house in (mapped_house([], [0], [1]), mapped_house([], [0], [0]), forking_house(4)):
            self.assertIs(how_many_rows(house).__class__, int)

    def test_longer_rows_are_not_counted(self):
        maps = [("slow", {0: [1], 1: [3]}), ("swift", {0: [3], 1: [3]}), ("stay", {0: [0]})]
        self.assertEqual(how_many_rows(mapped_house(maps, [0], [3])), 1)

    def test_rows_that_end_in_unlike_crowds(self):
        maps = [("one", {0: [1]}), ("two", {0: [2]}), ("luck", {0: [1, 2]}), ("bad", {0: [0, 1]})]
        self.assertEqual(how_many_rows(mapped_house(maps, [0], [1, 2])), 3)

    def test_rows_that_meet_and_part_again_are_counted_each(self):
        self.assertEqual(how_many_rows(forking_house(2)), 2)
        self.assertEqual(how_many_rows(forking_house(4)), 4)
        self.assertEqual(how_many_rows(forking_house(10)), 32)

    def test_a_count_far_above_64_bits_is_told_whole(self):
        self.assertEqual(how_many_rows(forking_house(660)), 2 ** 330)
        maps = [(name, {at: [at + 1] for at in range(200)}) for name in LETTERS]
        self.assertEqual(how_many_rows(mapped_house(maps, [0], [200], 8)), 12 ** 200)

    def test_two_thousand_crowds_by_rows_of_that_length(self):
        self.assertEqual(how_many_rows(counters_house(40, 50, [39, 128 + 49])), math.comb(88, 39))
        self.assertEqual(how_many_rows(clock_house(16, 125, [15, 128 + 124])), 1)
        # A crowd further off than the least length is no matter.
        self.assertEqual(how_many_rows(counters_house(29, 69, [27, 128 + 68])), math.comb(95, 27))
        self.assertEqual(how_many_rows(counters_house(29, 69, [28, 128 + 67])), math.comb(95, 28))
        self.assertEqual(how_many_rows(clock_house(29, 69, [27, 128 + 67])), 1)

    def test_two_thousand_and_one_by_rows_of_that_length(self):
        self.assertIs(refusal_of(how_many_rows, counters_house(29, 69, [28, 128 + 68])), TooMany)
        self.assertIs(refusal_of(how_many_rows, clock_house(29, 69, [28, 128 + 68])), TooMany)

    def test_two_thousand_crowds_and_one_more_where_there_are_no_rows(self):
        self.assertEqual(how_many_rows(counters_house(40, 50, [])), 0)
        self.assertEqual(how_many_rows(clock_house(16, 125, [])), 0)
        self.assertIs(refusal_of(how_many_rows, counters_house(29, 69, [])), TooMany)
        self.assertIs(refusal_of(how_many_rows, clock_house(29, 69, [])), TooMany)

    def test_all_crowds_of_the_least_length_count_those_found_later_too(self):
        # By rows of at most 61 deeds 1953 crowds are come to, by rows of at most 62 they are 2016.
        maps = two_counters(100, 100)
        for well in ([61, 128], [0, 128 + 61]):
            self.assertEqual(how_many_rows(mapped_house(maps, [0, 128], well, 8)), 1)
        for well in ([62, 128], [0, 128 + 62]):
            self.assertIs(refusal_of(how_many_rows, mapped_house(maps, [0, 128], well, 8)), TooMany)
        # There a row is told, for its crowd is found early.
        self.assertEqual(sure_row(mapped_house(maps, [0, 128], [62, 128], 8)), ("row", ["one"] * 62))

    def test_houses_by_a_rule_and_by_chance(self):
        samples = [(mapped_parts(2, *sample), sample[0], sample[2]) for sample in ruled_samples(200)]
        chance = random.Random(16)
        for _ in range(100):
            parts = random_parts(chance)
            samples.append((parts, *maps_of(parts)))
        for parts, maps, well in samples:
            self.check(house_of(*parts), maps, well, parts[3])

    def check(self, house, maps, well, firsts):
        """Against all rows of the least length, one by one."""
        rows = [row for crowd, row in crowds_by_maps(maps, tuple(firsts)).items() if set(crowd) <= well]
        if not rows:
            self.assertEqual(how_many_rows(house), 0)
        elif len(rows[0]) <= 6:
            names = [name for name, _ in maps]
            due = sum(goes_by_maps(maps, well, tuple(firsts), row)[0] == "well"
                      for row in itertools.product(names, repeat=len(rows[0])))
            self.assertEqual(how_many_rows(house), due)


class TestLeastDeeds(unittest.TestCase):
    """[17]"""

    MAPS = [("on", {0: [1], 1: [2], 2: [3], 3: [3]}), ("back", {1: [0], 2: [1]})]

    def test_no_crowds(self):
        self.assertEqual(least_deeds(mapped_house(self.MAPS, [0], [3]), []), [])

    def test_one_crowd(self):
        house = mapped_house(self.MAPS, [0], [3])
        for crowd, due in (((3,), 0), ((2,), 1), ((1,), 2), ((0,), 3), ((0, 1, 2, 3), 3), ((2, 3), 1)):
            self.assertEqual(least_deeds(house, [crowd]), [due])

    def test_many_crowds_in_their_order(self):
        house = mapped_house(self.MAPS, [0], [3])
        crowds = list(itertools.permutations([(3,), (2,), (1,), (0,), (1, 2)]))
        least = {(3,): 0, (2,): 1, (1,): 2, (0,): 3, (1, 2): 2}
        for order in crowds:
            self.assertEqual(least_deeds(house, list(order)), [least[crowd] for crowd in order])

    def test_one_crowd_twice(self):
        house = mapped_house(self.MAPS, [0], [3])
        self.assertEqual(least_deeds(house, [(1,), (3,), (1,), (1,)]), [2, 0, 2, 2])

    def test_none_among_numbers(self):
        maps = [("on", {0: [1], 1: [2]}), ("spoil", {0: [3], 1: [3], 2: [3], 3: [3]})]
        house = mapped_house(maps, [0], [2])
        told = least_deeds(house, [(0,), (3,), (1,), (0, 3), (2,), (3,), (0, 1)])
        self.assertEqual(told, [2, None, 1, None, 0, None, None])
        self.assertEqual(kinds_of(told), kinds_of([2, None, 1, None, 0, None, None]))

    def test_the_houses_firsts_are_no_matter(self):
        for firsts in ([3], [0, 1, 2, 3], [2]):
            self.assertEqual(least_deeds(mapped_house(self.MAPS, firsts, [3]), [(1,), (0, 1)]), [2, 3])

    def test_no_world(self):
        house = house_of(*safe_parts())
        for place, crowd in enumerate(NO_CROWDS):
            with self.subTest(place):
                self.assertIs(refusal_of(least_deeds, house, [crowd]), NoWorld)
                self.assertIs(refusal_of(least_deeds, house, [crowd, (0,)]), NoWorld)
                self.assertIs(refusal_of(least_deeds, house, [(0,), (1, 3), crowd]), NoWorld)

    def test_too_many(self):
        house = counters_house(29, 69, [])
        self.assertIs(refusal_of(least_deeds, house, [(0, 128)]), TooMany)
        self.assertIs(refusal_of(least_deeds, house, [(3,), (1, 128), (0, 128)]), TooMany)
        self.assertIs(refusal_of(least_deeds, house, [(0, 128), (3,)]), TooMany)

    def test_each_crowd_is_counted_from_by_itself(self):
        house = counters_house(29, 69, [])
        # From these 1932 and 1972 crowds are found, together more than two thousand.
        self.assertEqual(least_deeds(house, [(1, 128), (0, 129), (0,), (128,), (28, 128 + 68)]), [None] * 5)
        self.assertEqual(least_deeds(counters_house(40, 50, []), [(0, 128), (3, 128)]), [None, None])

    def test_too_many_only_where_no_well_crowd_is_found_ahead(self):
        house = counters_house(29, 69, [28, 128 + 68])
        self.assertIs(refusal_of(least_deeds, house, [(0, 128)]), TooMany)
        self.assertEqual(least_deeds(house, [(1, 128), (28, 128), (0, 130)]), [95, 68, 94])
        self.assertEqual(least_deeds(counters_house(29, 69, [27, 128 + 68]), [(0, 128), (28, 128)]), [95, None])

    def test_no_world_goes_ahead_of_too_many(self):
        house = counters_house(29, 69, [])
        for crowds in ([(0, 128), (1, 0)], [(0, 128), (3,), ()], [(256,), (0, 128)]):
            self.assertIs(refusal_of(least_deeds, house, crowds), NoWorld)

    def test_all_crowds_of_a_told_paper_and_of_a_long_row(self):
        house = counters_house(40, 50, [])
        paper = sure_row(house)[1]
        self.assertEqual(least_deeds(house, paper), [None] * len(paper))
        house = clock_house(16, 125, [15, 128 + 124])
        crowds = row_goes(house, (0, 128), sure_row(house)[1])[1]
        self.assertEqual(least_deeds(house, crowds), list(range(1999, -1, -1)))
        self.assertEqual(least_deeds(house, crowds[::-97]), list(range(0, 2000, 97)))

    def test_houses_by_a_rule_and_by_chance(self):
        samples = [(mapped_parts(2, *sample), sample[0], sample[2]) for sample in ruled_samples(150)]
        chance = random.Random(17)
        for _ in range(60):
            parts = random_parts(chance)
            if len(parts[0]) < 4:
                samples.append((parts, *maps_of(parts)))
        for parts, maps, well in samples:
            worlds = range(1 << len(parts[0]))
            crowds = [crowd for many in (1, 2, 3, len(worlds)) for crowd in itertools.combinations(worlds, many)]
            due = []
            for crowd in crowds:
                rows = [row for each, row in crowds_by_maps(maps, crowd).items() if set(each) <= well]
                due.append(len(rows[0]) if rows else None)
            self.assertEqual(least_deeds(house_of(*parts), crowds), due)
            self.assertEqual(least_deeds(house_of(*parts), crowds[::-1]), due[::-1])


class TestToldAndHandedIn(unittest.TestCase):
    """[2] and [3]"""

    def houses(self):
        maps = TestLeastDeeds.MAPS
        return [mapped_house(maps, [0], [3]), mapped_house(maps, [0, 3], [2]), mapped_house(maps, [3], [3]),
                house_of(*safe_parts()), house_of(*with_part(bare_parts(["a"]), 4, NEVER))]

    def test_what_is_handed_in_stays(self):
        for house in self.houses():
            before = copy.deepcopy(house)
            crowds = [(0,), (0, 1), (0,)]
            sure_row(house)
            how_many_rows(house)
            least_deeds(house, crowds)
            self.assertEqual(house, before)
            self.assertEqual(crowds, [(0,), (0, 1), (0,)])

    def test_what_is_refused_changes_nothing(self):
        house = counters_house(29, 69, [])
        before = copy.deepcopy(house)
        crowds = [(3,), (0, 128)]
        for call, arguments in ((sure_row, ()), (how_many_rows, ()), (least_deeds, (crowds,))):
            for _ in range(2):
                self.assertIs(refusal_of(call, house, *arguments), TooMany)
        self.assertEqual(house, before)
        self.assertEqual(crowds, [(3,), (0, 128)])

    def test_tellings_share_no_list_and_stay_the_same(self):
        for house in self.houses():
            for call, arguments in ((sure_row, ()), (least_deeds, ([(0,), (1,)],)), (least_deeds, ([],))):
                told, again = call(house, *arguments), call(house, *arguments)
                self.assertEqual(told, again)
                lists = lists_within(told) + lists_within(again) + lists_within((house, arguments))
                self.assertEqual(len({id(each) for each in lists}), len(lists))
                for each in lists_within(told):
                    each.append("spoilt")
                self.assertEqual(call(house, *arguments), again)

    def test_looks_are_no_matter(self):
        parts = (["a"], [("flip", YES, [[(fact("a"), "a", False), (("not", fact("a")), "a", True)]])],
                 [("see", YES, fact("a"))], [0, 1], only_in(["a"], [1]))
        self.assertEqual(sure_row(house_of(*parts))[0], "never")
        self.assertEqual(how_many_rows(house_of(*parts)), 0)
        self.assertEqual(least_deeds(house_of(*parts), [(0, 1), (0,), (1,)]), [None, 1, 0])


if __name__ == "__main__":
    unittest.main()
