"""Tests of sureplans.together: points [2], [3], [41], [42] and [43]."""

import copy
import itertools
import random
import unittest

from sureplans.doing import worlds_behind
from sureplans.errors import NoDeed, NoHouse, NoNeed, NoPaper, NoPlan
from sureplans.houses import holds_in, house_of, worlds_where
from sureplans.looking import sides_of
from sureplans.never import less_paper, never_shows
from sureplans.rows import row_goes
from sureplans.sure import sure_row
from sureplans.together import house_kept_to, paper_for_both, row_for_both, side_by_side
from sureplans.treesure import sure_tree
from tests.samples import (
    YES, bare_parts, facts_so, fact, kinds_of, lists_within, mapped_parts, random_parts, refusal_of,
    ruled_samples, safe_parts, with_looks, with_part, world_of)


def other_parts():
    """The five of a house with no name of the safe house's."""
    return (
        ["c", "a", "b"],
        [("stir", fact("a"), [[(fact("c"), "b", True)], [(YES, "a", False), (YES, "c", True)]]), ("wait", YES, [[]])],
        [("scent", fact("b"), fact("c"))],
        [2, 5],
        ("either", fact("c"), ("not", fact("b"))),
    )


def renamed(value, sign):
    """The value with the sign behind each name of at most seven letters that isn't a condition's word."""
    if isinstance(value, str):
        return value + sign
    if isinstance(value, tuple) and value[:1] and value[0] in ("yes", "fact", "not", "both", "either"):
        return (value[0],) + tuple(renamed(part, sign) for part in value[1:])
    if isinstance(value, (list, tuple)):
        return value.__class__(renamed(part, sign) for part in value)
    return value


def small_houses(many):
    """Pairs of houses of two facts, with deeds called go and act, and called hop and try, by a rule."""
    samples = ruled_samples(2 * many)
    for (maps, firsts, well), (others, other_firsts, other_well) in zip(samples[::2], samples[1::2]):
        one = house_of(*mapped_parts(2, maps, firsts[:3], well))
        other = renamed(mapped_parts(2, others, other_firsts[:3], other_well), "x")
        yield one, house_of(*other)


class TestSideBySide(unittest.TestCase):
    """[41]"""

    def test_all_of_it_by_hand(self):
        one, other = safe_parts(), other_parts()
        told = side_by_side(house_of(*one), house_of(*other))
        due = (one[0] + other[0], one[1] + other[1], one[2] + other[2],
               [0 + 8, 1 + 8, 3 + 8, 0 + 20, 1 + 20, 3 + 20], ("both", one[4], other[4]))
        self.assertEqual(told, due)
        self.assertEqual(kinds_of(told), kinds_of(due))

    def test_the_other_way_about(self):
        one, other = safe_parts(), other_parts()
        told = side_by_side(house_of(*other), house_of(*one))
        due = (other[0] + one[0], other[1] + one[1], other[2] + one[2],
               [2, 5, 2 + 8, 5 + 8, 2 + 24, 5 + 24], ("both", other[4], one[4]))
        self.assertEqual(told, due)

    def test_it_is_a_house(self):
        told = side_by_side(house_of(*safe_parts()), house_of(*other_parts()))
        self.assertEqual(house_of(*told), told)

    def test_houses_without_deeds_and_looks(self):
        one, other = house_of(*bare_parts(["a"])), house_of(*with_part(bare_parts(["b", "c"]), 3, [1, 3]))
        self.assertEqual(side_by_side(one, other), (["a", "b", "c"], [], [], [2, 6], ("both", YES, YES)))

    def test_worlds_put_together_rising(self):
        one = house_of(*with_part(bare_parts(["a", "b"]), 3, [0, 2, 3]))
        other = house_of(*with_part(bare_parts(["c"]), 3, [0, 1]))
        self.assertEqual(side_by_side(one, other)[3], [0, 2, 3, 4, 6, 7])
        self.assertEqual(side_by_side(other, one)[3], [0, 1, 4, 5, 6, 7])

    def test_a_deed_of_the_one_changes_nothing_of_the_other(self):
        one, other = house_of(*safe_parts()), house_of(*other_parts())
        both = side_by_side(one, other)
        for low, above in itertools.product(range(4), range(8)):
            world = low + 4 * above
            self.assertEqual(holds_in(both, both[4], world),
                             holds_in(one, one[4], low) and holds_in(other, other[4], above))
            for name, _, _ in one[1]:
                if refusal_of(worlds_behind, one, name, low) is NoNeed:
                    self.assertIs(refusal_of(worlds_behind, both, name, world), NoNeed)
                else:
                    self.assertEqual(worlds_behind(both, name, world),
                                     [each + 4 * above for each in worlds_behind(one, name, low)])
            for name, _, _ in other[1]:
                if refusal_of(worlds_behind, other, name, above) is NoNeed:
                    self.assertIs(refusal_of(worlds_behind, both, name, world), NoNeed)
                else:
                    self.assertEqual(worlds_behind(both, name, world),
                                     [low + 4 * each for each in worlds_behind(other, name, above)])

    def test_looks_of_both(self):
        both = side_by_side(house_of(*safe_parts()), house_of(*other_parts()))
        self.assertEqual(sides_of(both, "peep", (0, 1, 9)), ((1, 9), (0,)))
        self.assertEqual(sides_of(both, "scent", (16, 20, 31)), ((20, 31), (16,)))

    def test_ten_facts_each(self):
        one = (list("abcdefghij"), [], [], list(range(0, 1024, 16)), YES)
        other = renamed(one, "x")
        told = side_by_side(house_of(*one), house_of(*other))
        self.assertEqual(told[0], one[0] + other[0])
        self.assertEqual(told[3], sorted(low + 1024 * high for low in one[3] for high in one[3]))

    def test_a_facts_name_with_a_facts(self):
        other = with_part(bare_parts(["c", "door"]), 1, [])
        self.assert_refused(safe_parts(), other)
        self.assert_refused(bare_parts(["a"]), bare_parts(["a"]))

    def test_a_deeds_name_with_a_deeds_and_a_looks(self):
        for parts in (with_part(bare_parts(["c"]), 1, [("press", YES, [[]])]),
                      with_part(bare_parts(["c"]), 2, [("press", YES, YES)]),
                      with_part(bare_parts(["c"]), 1, [("feel", YES, [[]])]),
                      with_part(bare_parts(["c"]), 2, [("feel", YES, YES)])):
            self.assert_refused(safe_parts(), parts)

    def test_a_facts_name_with_a_deeds_or_a_looks(self):
        for parts in (with_part(bare_parts(["c"]), 1, [("door", YES, [[]])]),
                      with_part(bare_parts(["c"]), 2, [("lamp", YES, YES)]),
                      bare_parts(["push"]), bare_parts(["a", "peep"])):
            self.assert_refused(safe_parts(), parts)

    def assert_refused(self, one, other):
        for pair in ((one, other), (other, one)):
            self.assertIs(refusal_of(side_by_side, house_of(*pair[0]), house_of(*pair[1])), NoHouse)

    def test_a_name_that_stands_twice_in_one_house_alone(self):
        one = (["door"], [("door", YES, [[]])], [], [0], YES)
        told = side_by_side(house_of(*one), house_of(*bare_parts(["a"])))
        self.assertEqual(told, (["door", "a"], [("door", YES, [[]])], [], [0], ("both", YES, YES)))

    def test_a_house_beside_itself(self):
        self.assert_refused(safe_parts(), safe_parts())


class TestPaperForBoth(unittest.TestCase):
    """[42], of papers."""

    MAPS = [("turn", {0: [1], 1: [0], 2: [3], 3: [2]})]

    def one(self, firsts=(0,)):
        return house_of(*mapped_parts(2, self.MAPS, firsts, []))

    def test_the_order_of_the_crowds(self):
        other = house_of(*bare_parts(["c"]))
        told = paper_for_both(self.one([0, 2]), other, [(1,), (0,), (0, 2)])
        # The last crowd, behind which there are 1 and 3, is let by, for (1,) lies within these.
        self.assertEqual(told, [(1,), (5,), (0,), (4,), (0, 2), (4, 6)])
        self.assertEqual(kinds_of(told), kinds_of([(1,), (5,), (0,), (4,), (0, 2), (4, 6)]))

    def test_each_world_of_the_other_house_rising(self):
        other = house_of(*bare_parts(["c", "d"]))
        told = paper_for_both(self.one(), other, [(0,), (1,)])
        self.assertEqual(told, [(0,), (4,), (8,), (12,), (1,), (5,), (9,), (13,)])

    def test_a_crowd_twice(self):
        told = paper_for_both(self.one(), house_of(*bare_parts(["c"])), [(0,), (1,), (0,)])
        self.assertEqual(told, [(0,), (4,), (1,), (5,), (0,), (4,)])

    def test_what_is_told_is_let_by_for_both(self):
        seen = 0
        for one, other in small_houses(120):
            kind, paper = sure_row(one)
            if kind == "never":
                both = side_by_side(one, other)
                for each in (paper, less_paper(one, paper), paper + paper):
                    self.assertIs(never_shows(both, paper_for_both(one, other, each)), True)
                seen += 1
                self.assertEqual(sure_row(both)[0], "never")
        self.assertGreater(seen, 40)

    def test_the_greatest_houses(self):
        maps = [("on", {at: [(at + 1) % 3] for at in range(3)}), ("back", {at: [(at + 2) % 3] for at in range(3)}),
                ("stay", {at: [at] for at in range(4)})]
        one = house_of(*mapped_parts(2, maps, [0, 1, 2], [3]))
        other = house_of(*renamed(mapped_parts(2, maps, [0, 1, 2], [3]), "x"))
        kind, paper = sure_row(one)
        self.assertEqual(kind, "never")
        self.assertIs(never_shows(side_by_side(one, other), paper_for_both(one, other, paper)), True)

    def test_no_house(self):
        one = self.one()
        for parts in (bare_parts(["a"]), with_part(bare_parts(["c"]), 1, [("turn", YES, [[]])]),
                      with_part(bare_parts(["c"]), 2, [("a", YES, YES)])):
            self.assertIs(refusal_of(paper_for_both, one, house_of(*parts), [(0,), (1,)]), NoHouse)

    def test_no_house_goes_ahead_of_no_paper(self):
        other = house_of(*bare_parts(["a"]))
        for paper in ([], [(2,)], [(9,)], [()]):
            self.assertIs(refusal_of(paper_for_both, self.one(), other, paper), NoHouse)

    def test_no_paper(self):
        other = house_of(*bare_parts(["c"]))
        for paper in ([], [(0,)], [(2,), (3,)], [(0,), (1,), ()], [(0,), (1,), (4,)], [(1, 0)], [(0,), (1, 1)]):
            self.assertIs(refusal_of(paper_for_both, self.one(), other, paper), NoPaper)

    def test_a_paper_of_the_other_house_is_none(self):
        other = house_of(*renamed(mapped_parts(2, self.MAPS, [2], []), "x"))
        paper = [(2,), (3,)]
        self.assertIs(never_shows(other, paper), True)
        self.assertIs(refusal_of(paper_for_both, self.one(), other, paper), NoPaper)


class TestRowForBoth(unittest.TestCase):
    """[42], of rows."""

    ONE = [("go", {0: [1], 1: [1]}), ("end", {1: [3]})]
    OTHER = [("hop", {0: [2], 2: [3]})]

    def houses(self):
        one = house_of(*mapped_parts(2, self.ONE, [0, 1], [3]))
        parts = with_part(mapped_parts(2, self.OTHER, [0], [3]), 0, ["a", "b"])
        return one, house_of(*renamed(parts, "x"))

    def test_a_row_that_goes_well_for_both(self):
        one, other = self.houses()
        told = row_for_both(one, other, ["go", "end"], ["hopx", "hopx"])
        self.assertEqual(kinds_of(told)[0], list)
        self.assertEqual(sorted(told), ["end", "go", "hopx", "hopx"])
        both = side_by_side(one, other)
        self.assertEqual(row_goes(both, tuple(both[3]), told)[0], "well")

    def test_rows_of_no_deeds(self):
        well = house_of(*bare_parts(["c"]))
        one, other = self.houses()
        self.assertEqual(row_for_both(well, house_of(*bare_parts(["d"])), [], []), [])
        self.assertEqual(row_for_both(one, well, ["go", "end"], []), ["go", "end"])
        self.assertEqual(row_for_both(well, other, [], ["hopx", "hopx"]), ["hopx", "hopx"])

    def test_told_rows_of_small_houses(self):
        seen = 0
        for one, other in small_houses(150):
            (kind, row), (other_kind, other_row) = sure_row(one), sure_row(other)
            both = side_by_side(one, other)
            if kind == other_kind == "row":
                told = row_for_both(one, other, row, other_row)
                self.assertEqual(row_goes(both, tuple(both[3]), told)[0], "well")
                self.assertEqual(sure_row(both)[0], "row")
                self.assertEqual(len(sure_row(both)[1]), len(row) + len(other_row))
                seen += len(row) > 0 and len(other_row) > 0
            else:
                self.assertEqual(sure_row(both)[0], "never")
        self.assertGreater(seen, 5)

    def test_no_plan(self):
        one, other = self.houses()
        good, others = ["go", "end"], ["hopx", "hopx"]
        for bad in ([], ["go"], ["end"], ["go", "end", "end"], ["go", "go"]):
            self.assertIs(refusal_of(row_for_both, one, other, bad, others), NoPlan)
            self.assertIs(refusal_of(row_for_both, one, other, bad, ["hopx"]), NoPlan)
        for bad in ([], ["hopx"], ["hopx"] * 3):
            self.assertIs(refusal_of(row_for_both, one, other, good, bad), NoPlan)

    def test_no_deed(self):
        one, other = self.houses()
        for name in ("", "none", "hopx", "a", "x" * 2000):
            self.assertIs(refusal_of(row_for_both, one, other, ["go", name, "end"], ["hopx", "hopx"]), NoDeed)
        for name in ("", "none", "go", "ax", "x" * 2000):
            self.assertIs(refusal_of(row_for_both, one, other, ["go", "end"], ["hopx", name]), NoDeed)

    def test_rows_turned_about(self):
        one, other = self.houses()
        self.assertIs(refusal_of(row_for_both, one, other, ["hopx", "hopx"], ["go", "end"]), NoDeed)

    def test_no_deed_goes_ahead_of_no_plan(self):
        one, other = self.houses()
        self.assertIs(refusal_of(row_for_both, one, other, ["end"], ["hopx", "none"]), NoDeed)
        self.assertIs(refusal_of(row_for_both, one, other, ["end", "none"], ["hopx"]), NoDeed)
        self.assertIs(refusal_of(row_for_both, one, other, [], ["none"]), NoDeed)

    def test_no_house_goes_ahead_of_all(self):
        one, _ = self.houses()
        for parts in (bare_parts(["b"]), with_part(bare_parts(["c"]), 1, [("go", YES, [[]])]),
                      with_part(bare_parts(["c"]), 2, [("end", YES, YES)])):
            for row, other_row in ((["go", "end"], []), (["none"], ["none"]), ([], [])):
                self.assertIs(refusal_of(row_for_both, one, house_of(*parts), row, other_row), NoHouse)


def lone(name):
    """A deed that names this fact alone."""
    return ("do" + name, fact(name), [[(fact(name), name, False)]])


class TestHouseKeptTo(unittest.TestCase):
    """[43]"""

    def test_by_hand(self):
        house = house_of(
            ["a", "b", "c"],
            [("one", fact("a"), [[(YES, "b", True)], []]), ("two", fact("c"), [[]]), ("three", YES, [[]])],
            [("peep", YES, fact("a")), ("feel", fact("c"), fact("a")), ("hear", fact("b"), YES)],
            [0, 3, 4, 6], ("either", fact("a"), fact("b")))
        due = (["a", "b"], [house[1][0], house[1][2]], [house[2][0], house[2][2]], [0, 2, 3], house[4])
        self.assertEqual(house_kept_to(house, ["a", "b"]), due)
        self.assertEqual(kinds_of(house_kept_to(house, ["a", "b"])), kinds_of(due))

    def test_all_facts_in_their_order(self):
        for parts in (safe_parts(), other_parts(), bare_parts(["a"])):
            self.assertEqual(house_kept_to(house_of(*parts), parts[0]), house_of(*parts))

    def test_facts_in_another_order_with_the_worlds_bits(self):
        parts = with_part(safe_parts(), 3, [0, 1])
        told = house_kept_to(house_of(*parts), ["door", "lamp"])
        self.assertEqual(told, (["door", "lamp"], parts[1], parts[2], [0, 2], parts[4]))
        house = house_of(*with_part(bare_parts(["a", "b", "c"]), 3, [1, 2, 4, 5]))
        for order in itertools.permutations("abc"):
            told = house_kept_to(house, list(order))
            due = sorted(world_of(order, facts_so(["a", "b", "c"], world)) for world in [1, 2, 4, 5])
            self.assertEqual((told[0], told[3]), (list(order), due))
            self.assertEqual(worlds_where(told, fact("a")), [at for at in range(8) if at >> order.index("a") & 1])

    def test_firsts_each_once_and_rising(self):
        house = house_of(*with_part(bare_parts(["a", "b"]), 3, [0, 1, 2, 3]))
        self.assertEqual(house_kept_to(house, ["a"])[3], [0, 1])
        self.assertEqual(house_kept_to(house, ["b"])[3], [0, 1])
        house = house_of(*with_part(bare_parts(["a", "b", "c"]), 3, [1, 5, 6]))
        self.assertEqual(house_kept_to(house, ["c", "b"])[3], [0, 1, 3])
        self.assertEqual(house_kept_to(house, ["c"])[3], [0, 1])
        house = house_of(*with_part(bare_parts(["a", "b"]), 3, [1, 3]))
        self.assertEqual(house_kept_to(house, ["a"])[3], [1])

    def test_deeds_that_name_another_fact_go(self):
        deep = ("not", ("both", ("either", YES, ("not", ("not", fact("b")))), YES))
        deeds = [lone("a"), ("need", fact("b"), [[]]), ("way", YES, [[], [(YES, "b", True)]]),
                 ("when", YES, [[(YES, "a", True), (fact("b"), "a", False)]]), ("deepneed", deep, [[]]),
                 ("deepwhen", YES, [[], [], [(YES, "a", True)], [(deep, "a", True)]]), lone("b"), ("bare", YES, [[]])]
        house = house_of(*with_part(bare_parts(["a", "b"]), 1, deeds))
        self.assertEqual(house_kept_to(house, ["a"])[1], [deeds[0], deeds[7]])
        self.assertEqual(house_kept_to(house, ["b"])[1], [deeds[1], deeds[2], deeds[4], deeds[6], deeds[7]])
        self.assertEqual(house_kept_to(house, ["b", "a"])[1], deeds)

    def test_looks_that_name_another_fact_go(self):
        deep = ("either", YES, ("both", YES, ("not", fact("b"))))
        looks = [("one", fact("a"), fact("a")), ("two", fact("b"), fact("a")), ("three", fact("a"), fact("b")),
                 ("four", deep, YES), ("five", YES, deep), ("six", YES, YES)]
        house = house_of(*with_part(bare_parts(["a", "b"]), 2, looks))
        self.assertEqual(house_kept_to(house, ["a"])[2], [looks[0], looks[5]])
        self.assertEqual(house_kept_to(house, ["b"])[2], looks[3:])
        self.assertEqual(house_kept_to(house, ["a", "b"])[2], looks)

    def test_a_deed_called_like_a_fact_that_goes(self):
        house = house_of(*with_part(bare_parts(["a", "b"]), 1, [("b", fact("a"), [[]])]))
        self.assertEqual(house_kept_to(house, ["a"])[1], [("b", fact("a"), [[]])])

    def test_a_wish_that_names_another_fact(self):
        for wish in (fact("b"), ("not", fact("b")), ("both", fact("a"), fact("b")),
                     ("either", fact("a"), ("not", ("both", YES, fact("b"))))):
            house = house_of(*with_part(bare_parts(["a", "b"]), 4, wish))
            self.assertIs(refusal_of(house_kept_to, house, ["a"]), NoHouse)
            self.assertEqual(house_kept_to(house, ["b", "a"])[4], wish)

    def test_no_facts_or_none_of_the_house_or_one_twice(self):
        house = house_of(*bare_parts(["a", "b"]))
        for facts in ([], ["c"], ["a", "c"], ["c", "a"], ["a", "a"], ["a", "b", "a"], ["b", "b"], [""], ["A"], ["ab"],
                      ["yes"], ["x" * 2000]):
            self.assertIs(refusal_of(house_kept_to, house, facts), NoHouse, facts)

    def test_three_facts_and_three_deeds(self):
        chance = random.Random(43)
        told = 0
        for _ in range(300):
            parts = random_parts(chance)
            house = house_of(*parts)
            facts = chance.sample(parts[0], chance.randint(1, len(parts[0])))
            due = self.kept_by_words(parts, facts)
            if due is None:
                self.assertIs(refusal_of(house_kept_to, house, facts), NoHouse)
            else:
                told += len(facts) < len(parts[0])
                self.assertEqual(house_kept_to(house, facts), due)
        self.assertGreater(told, 20)

    def kept_by_words(self, parts, facts):
        """What [43] tells, by which names of facts stand in what is shown of each part."""
        others = [name for name in parts[0] if name not in facts]

        def stays(part):
            return not any(repr(other) in repr(part) for other in others)

        if not stays(parts[4]):
            return None
        firsts = sorted({world_of(facts, facts_so(parts[0], world)) for world in parts[3]})
        return (facts, [deed for deed in parts[1] if stays(deed[1:])], [look for look in parts[2] if stays(look[1:])],
                firsts, parts[4])

    def test_what_goes_well_in_a_house_kept_so_goes_well_in_the_house(self):
        # Of two houses side by side the one is kept, and what is told of it is as before.
        for one, other in small_houses(40):
            both = side_by_side(one, other)
            self.assertEqual(refusal_of(house_kept_to, both, one[0]),
                             NoHouse if "x'" in repr(other[4]) else None)
            free = house_of(*with_part(other, 4, YES))
            kept = house_kept_to(side_by_side(one, free), one[0])
            self.assertEqual(kept[:4], one[:4])
            self.assertEqual(sure_row(kept), sure_row(one))


class TestToldAndHandedIn(unittest.TestCase):
    """[2] and [3]"""

    def test_what_is_told_shares_no_list_with_what_was_handed_in(self):
        one, other = house_of(*safe_parts()), house_of(*other_parts())
        facts = ["door", "lamp"]
        for told in (side_by_side(one, other), side_by_side(other, one), house_kept_to(one, facts)):
            lists = lists_within([told, one, other, facts])
            self.assertEqual(len({id(each) for each in lists}), len(lists))
            kept = copy.deepcopy(told)
            again = copy.deepcopy((one, other, facts))
            for each in lists_within(told):
                each.append("spoilt")
            self.assertEqual((one, other, facts), again)
            self.assertIn(kept, (side_by_side(one, other), side_by_side(other, one), house_kept_to(one, facts)))

    def test_papers_and_rows_told_are_new(self):
        one = house_of(*mapped_parts(2, [("turn", {0: [1], 1: [0]})], [0], []))
        other = house_of(*bare_parts(["c"]))
        paper = [(0,), (1,)]
        told, again = paper_for_both(one, other, paper), paper_for_both(one, other, paper)
        self.assertEqual(told, again)
        told.append("spoilt")
        self.assertEqual((paper_for_both(one, other, paper), paper), (again, [(0,), (1,)]))
        well, row, other_row = house_of(*with_part(bare_parts(["d"]), 1, [("go", YES, [[]])])), ["go"], []
        told = row_for_both(well, other, row, other_row)
        self.assertIsNot(told, row)
        told.append("spoilt")
        self.assertEqual((row, other_row, row_for_both(well, other, row, other_row)), (["go"], [], ["go"]))
        told = row_for_both(other, well, [], row)
        self.assertIsNot(told, row)

    def test_what_is_refused_changes_nothing(self):
        one, other = house_of(*safe_parts()), house_of(*other_parts())
        row, paper = ["press"], [(0,)]
        before = copy.deepcopy((one, other, row, paper))
        self.assertIs(refusal_of(side_by_side, one, one), NoHouse)
        self.assertIs(refusal_of(paper_for_both, one, other, paper), NoPaper)
        self.assertIs(refusal_of(row_for_both, one, other, row, ["wait"]), NoPlan)
        self.assertIs(refusal_of(row_for_both, one, other, row, row), NoDeed)
        self.assertIs(refusal_of(house_kept_to, one, ["lamp"]), NoHouse)
        self.assertEqual((one, other, row, paper), before)

    def test_what_is_told_may_be_handed_in(self):
        one = house_of(*mapped_parts(2, [("on", {0: [1], 1: [3]})], [0], [3]))
        other = house_of(*with_looks(renamed(mapped_parts(2, [("left", {0: [3]}), ("right", {1: [3]})], [0, 1], [3]), "x"),
                                     [("peepx", range(4), [1])]))
        both = side_by_side(one, other)
        third = house_of(*renamed(safe_parts(), "z"))
        self.assertEqual(sure_row(both)[0], "never")
        self.assertEqual(sure_tree(both)[0], "tree")
        three = side_by_side(both, third)
        self.assertEqual(len(three[0]), 6)
        self.assertEqual(sure_row(three)[0], "never")
        kept = house_kept_to(side_by_side(both, house_of(*bare_parts(["q"]))), both[0])
        self.assertEqual(kept[:4], both[:4])


if __name__ == "__main__":
    unittest.main()
