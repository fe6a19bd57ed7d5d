"""Tests of sureplans.desk: points [2], [3], [50] and [51]."""

import random
import unittest

from sureplans.desk import Desk
from sureplans.errors import NoDeed, NoForm, NoHouse, NoneYet, NoPlan, NoText, TooMany
from sureplans.houses import house_of
from sureplans.looking import looks_in
from sureplans.rows import known_in, row_goes
from sureplans.sure import how_many_rows, sure_row
from sureplans.texts import read_row, show_house
from sureplans.trees import tree_depth, tree_parts
from sureplans.treesure import sure_tree
from tests.samples import (
    LETTERS, YES, bare_parts, clock, fact, mapped_parts, random_parts, refusal_of, ruled_with_looks, two_counters,
    with_looks, with_part)

# Two lights and a bell: flip turns the one light, ring rings the bell where it is lit, and calm stills it.
ROWS = """facts left right bell
do flip yes / +left@!left -left@left
do ring left / +bell@yes
do calm yes / -bell@yes
do dim yes / -left@yes /
see peep yes left
see hear yes bell
see late bell right
first 0 2
wish bell""".split("\n")


def desk_with(rows):
    desk = Desk()
    for row in rows:
        desk.say("row " + row)
    desk.say("read")
    return desk


def desk_of(parts):
    return desk_with(show_house(house_of(*parts)).split("\n"))


class DeskCase(unittest.TestCase):

    def assert_said(self, desk, said):
        """Each row is answered so, or refused so."""
        for row, due in said:
            with self.subTest(row):
                if isinstance(due, str):
                    self.assertEqual(desk.say(row), due)
                else:
                    self.assertIs(refusal_of(desk.say, row), due)


class TestRows(DeskCase):
    """`row`, `clear` and `read`."""

    def test_a_house_is_told_and_read(self):
        desk = Desk()
        self.assert_said(desk, [("row " + row, "ok") for row in ROWS] + [("read", "worlds 2")])

    def test_how_many_firsts_there_are(self):
        for firsts in ([0], [0, 3], list(range(64))):
            parts = with_part(bare_parts(list(LETTERS[:6])), 3, firsts)
            desk = Desk()
            for row in show_house(house_of(*parts)).split("\n"):
                self.assertEqual(desk.say("row " + row), "ok")
            self.assertEqual(desk.say("read"), f"worlds {len(firsts)}")

    def test_any_signs_behind_row(self):
        signs = ["", " ", "  ", "row", "!\"#$&'()*+,-./:;<=>?@[\\]^_`{|}~", "\t", "\r", "\u20ac", "\x00", "clear", " facts",
                 "facts ", "(" * 1500, "x" * 4000]
        self.assert_said(Desk(), [("row " + each, "ok") for each in signs])

    def test_a_row_with_nothing_behind_the_blank(self):
        desk = Desk()
        self.assert_said(desk, [("row " + row, "ok") for row in ROWS] + [("row ", "ok"), ("read", NoText)])

    def test_a_row_without_the_blank(self):
        self.assert_said(Desk(), [("row", NoForm), ("rows", NoForm), ("row\t", NoForm), ("rowx y", NoForm), (" row x", NoForm),
                                  ("Row x", NoForm), ("ROW x", NoForm), ("", NoForm), (" ", NoForm)])

    def test_blanks_at_the_ends_of_a_told_row_stay(self):
        for row in ("facts a ", " facts a", "facts  a"):
            desk = Desk()
            self.assert_said(desk, [(f"row {row}", "ok"), ("row first 0", "ok"), ("row wish yes", "ok"), ("read", NoText)])
        desk = Desk()
        self.assert_said(desk, [("row facts a", "ok"), ("row first 0", "ok"), ("row wish yes", "ok"), ("read", "worlds 1")])

    def test_read_without_rows(self):
        self.assert_said(Desk(), [("read", NoText), ("read", NoText)])

    def test_read_twice(self):
        desk = desk_with(ROWS)
        self.assert_said(desk, [("read", "worlds 2"), ("sure", "row flip ring"), ("read", "worlds 2")])

    def test_rows_stay_behind_a_read(self):
        desk = Desk()
        said = [("row facts a", "ok"), ("read", NoText), ("row first 0 1", "ok"), ("read", NoText), ("row wish yes", "ok"),
                ("read", "worlds 2"), ("sure", "row -"), ("row wish a", "ok"), ("read", NoText), ("sure", "row -")]
        self.assert_said(desk, said)

    def test_clear(self):
        desk = Desk()
        self.assert_said(desk, [("clear", "ok"), ("row nonsense", "ok"), ("read", NoText), ("clear", "ok"), ("read", NoText),
                                ("row facts a", "ok"), ("row first 1", "ok"), ("row wish a", "ok"), ("read", "worlds 1"),
                                ("clear", "ok"), ("clear", "ok"), ("read", NoText)])

    def test_a_house_that_was_read_stays_behind_clear(self):
        desk = desk_with(ROWS)
        self.assert_said(desk, [("clear", "ok"), ("sure", "row flip ring"), ("goes flip ring", "well"), ("read", NoText),
                                ("sure", "row flip ring"), ("row facts a", "ok"), ("many", "1")])

    def test_of_a_read_that_is_refused_the_house_before_answers(self):
        desk = desk_with(ROWS)
        self.assert_said(desk, [("row and more", "ok"), ("read", NoText), ("sure", "row flip ring"), ("clear", "ok"),
                                ("row facts a a", "ok"), ("row first 0", "ok"), ("row wish yes", "ok"), ("read", NoHouse),
                                ("sure", "row flip ring"), ("looks", "none")])

    def test_the_house_last_read_answers(self):
        desk = desk_with(ROWS)
        self.assert_said(desk, [("clear", "ok"), ("row facts a", "ok"), ("row do set yes / +a@yes", "ok"), ("row first 0", "ok"),
                                ("row wish a", "ok"), ("sure", "row flip ring"), ("read", "worlds 1"), ("sure", "row set"),
                                ("goes flip", NoDeed)])

    def test_a_row_that_was_refused_is_not_told(self):
        desk = Desk()
        self.assert_said(desk, [("row facts a", "ok"), ("row first 0\nx", NoForm), ("row", NoForm), ("row first 0", "ok"),
                                ("row wish a\n", NoForm), ("row wish yes", "ok"), ("read", "worlds 1")])

    def test_a_house_in_one_row_is_none(self):
        text = "\n".join(ROWS)
        self.assert_said(Desk(), [("row " + text, NoForm), ("row " + text.replace("\n", " "), "ok"), ("read", NoText)])

    def test_more_than_a_thousand_brackets(self):
        deep = "(" * 1200 + "a" + "&a)" * 1200
        desk = Desk()
        self.assert_said(desk, [("row facts a", "ok"), ("row first 0", "ok"), (f"row wish {deep}", "ok"), ("read", NoText),
                                (deep, NoForm), (f"goes {deep}", NoForm), (f"known {'[' * 2000}", NoForm)])


class TestAnswers(DeskCase):
    """What is asked of a house."""

    def test_sure(self):
        self.assert_said(desk_with(ROWS), [("sure", "row flip ring")])
        self.assert_said(desk_of(bare_parts(["a"])), [("sure", "row -")])
        self.assert_said(desk_of(with_part(bare_parts(["a"]), 4, fact("a"))), [("sure", "never")])

    def test_many(self):
        self.assert_said(desk_with(ROWS), [("many", "1")])
        self.assert_said(desk_of(bare_parts(["a"])), [("many", "1")])
        self.assert_said(desk_of(with_part(bare_parts(["a"]), 4, fact("a"))), [("many", "0")])
        maps = [(name, {0: [3]}) for name in LETTERS]
        self.assert_said(desk_of(mapped_parts(2, maps, [0], [3])), [("many", "12")])

    def test_goes(self):
        self.assert_said(desk_with(ROWS), [
            ("goes flip ring", "well"), ("goes -", "ends 0"), ("goes ring", "stuck 1 0"), ("goes flip flip ring", "stuck 3 0"),
            ("goes flip", "ends 1"), ("goes flip ring calm", "ends 1"), ("goes flip dim ring", "stuck 3 0"),
            ("goes calm ring flip", "stuck 2 0"), ("goes flip ring flip calm flip ring", "well")])
        self.assert_said(desk_of(with_part(bare_parts(["a", "b"]), 3, [2, 3])), [("goes -", "well")])
        parts = (["a", "b"], [("go", fact("a"), [[]])], [], [1, 2, 3], fact("b"))
        self.assert_said(desk_of(parts), [("goes -", "ends 1"), ("goes go", "stuck 1 2")])

    def test_known(self):
        self.assert_said(desk_with(ROWS), [
            ("known -", "-left -bell"), ("known flip", "+left -bell"), ("known flip ring", "+left +bell"),
            ("known flip dim", "-bell"), ("known flip ring dim", "+bell"), ("known ring", "stuck 1 0"),
            ("known flip flip ring flip", "stuck 3 0")])
        self.assert_said(desk_of(with_part(bare_parts(["a", "b"]), 3, [0, 1, 2])), [("known -", "nothing")])
        self.assert_said(desk_of(with_part(bare_parts(["a", "b"]), 3, [1, 2])), [("known -", "nothing")])
        self.assert_said(desk_of(with_part(bare_parts(["a", "b"]), 3, [2])), [("known -", "-a +b")])

    def test_known_asks_nothing_of_the_wish(self):
        parts = (["a"], [("set", YES, [[(YES, "a", True)]]), ("not", fact("a"), [[(YES, "a", False)]])], [], [0, 1],
                 ("not", fact("a")))
        self.assert_said(desk_of(parts), [("known set", "+a"), ("known set not", "-a"), ("known not", "stuck 1 0"),
                                          ("goes set", "ends 1"), ("goes set not", "well")])

    def test_good(self):
        self.assert_said(desk_with(ROWS), [("good -", "4"), ("good flip ring", "4"), ("good ring", "4"), ("good calm", "0"),
                                           ("good flip", "4"), ("good flip calm ring", "4"), ("good dim ring", "0")])
        self.assert_said(desk_of(bare_parts(["a", "b"])), [("good -", "4")])

    def test_spare(self):
        self.assert_said(desk_with(ROWS), [
            ("spare flip ring", "flip ring"), ("spare calm flip ring", "flip ring"), ("spare flip ring flip", "flip ring"),
            ("spare flip flip flip ring ring", "flip flip flip ring"), ("spare flip calm ring dim", "flip ring"),
            ("spare -", NoPlan), ("spare flip", NoPlan), ("spare ring", NoPlan)])
        parts = (["a"], [("go", YES, [[]])], [], [0], YES)
        self.assert_said(desk_of(parts), [("spare go go", "-"), ("spare -", "-")])

    def test_tree(self):
        self.assert_said(desk_with(ROWS), [("tree", "tree 2 3")])
        self.assert_said(desk_of(bare_parts(["a"])), [("tree", "tree 0 1")])
        self.assert_said(desk_of(with_part(bare_parts(["a"]), 4, fact("a"))), [("tree", "never")])
        maps = [("left", {0: [3]}), ("right", {1: [3]})]
        desk = desk_of(with_looks(mapped_parts(2, maps, [0, 1], [3]), [("peep", range(4), [1])]))
        self.assert_said(desk, [("tree", "tree 2 5"), ("sure", "never"), ("many", "0")])

    def test_a_tree_of_more_parts_than_can_be_walked(self):
        # Chance leads to one of two worlds at each level, of which only a look tells, and ever again.
        maps = [("one", {2 * at: [2 * at + 2, 2 * at + 3] for at in range(120)}),
                ("two", {2 * at + 1: [2 * at + 2, 2 * at + 3] for at in range(120)})]
        desk = desk_of(with_looks(mapped_parts(8, maps, [0, 1], [240, 241]), [("odd", range(256), range(1, 256, 2))]))
        self.assert_said(desk, [("tree", f"tree 240 {4 * 2 ** 120 - 3}")])

    def test_looks(self):
        rows = [row.replace("first 0 2", "first 0 1 5 7") for row in ROWS]
        self.assert_said(desk_with(rows), [("looks", "peep 3 1 hear 2 2")])
        self.assert_said(desk_with([row.replace("first 0 2", "first 5 7") for row in ROWS]), [("looks", "late 1 1")])
        self.assert_said(desk_with(ROWS), [("looks", "none")])
        self.assert_said(desk_of(bare_parts(["a"])), [("looks", "none")])

    def test_too_many(self):
        desk = desk_of(mapped_parts(8, two_counters(29, 69), [0, 128], []))
        self.assert_said(desk, [("sure", TooMany), ("many", TooMany), ("tree", TooMany), ("goes -", "ends 0"),
                                ("goes one", "ends 1"), ("good one two", "0")])
        desk = desk_of(mapped_parts(9, clock(29, 69), [0, 128], [1, 129]))
        self.assert_said(desk, [("sure", "row tick"), ("many", "1"), ("tree", TooMany)])

    def test_a_row_of_a_hundred_names(self):
        desk = desk_with(ROWS)
        row = " ".join(["flip"] * 98)
        self.assert_said(desk, [(f"goes {row} flip ring", "well"), (f"known {row} flip ring", "+left +bell"),
                                (f"good {row} flip ring", "4")])

    def test_told_rows_longer_than_a_hundred(self):
        desk = desk_of(mapped_parts(9, clock(16, 125), [0, 128], [15, 128 + 124]))
        self.assert_said(desk, [("sure", "row " + " ".join(["tick"] * 1999)), ("many", "1")])

    def test_houses_by_a_rule_and_by_chance(self):
        chance = random.Random(50)
        samples = [parts for _, _, _, _, parts in ruled_with_looks(40)] + [random_parts(chance) for _ in range(60)]
        for parts in samples:
            house, desk = house_of(*parts), desk_of(parts)
            firsts = tuple(house[3])
            kind, told = sure_row(house)
            self.assertEqual(desk.say("sure"), "never" if kind == "never" else "row " + (" ".join(told) or "-"))
            self.assertEqual(desk.say("many"), str(how_many_rows(house)))
            kind, told = sure_tree(house)
            due = "never" if kind == "never" else f"tree {tree_depth(told)} {tree_parts(told)}"
            self.assertEqual(desk.say("tree"), due)
            due = " ".join(f"{name} {many} {others}" for name, many, others in looks_in(house, firsts))
            self.assertEqual(desk.say("looks"), due or "none")
            for _ in range(5):
                row = [chance.choice(house[1])[0] for _ in range(chance.randint(0, 3))] if house[1] else []
                self.check_row(house, desk, firsts, row)

    def check_row(self, house, desk, firsts, row):
        told = row_goes(house, firsts, row)
        due = {"well": "well", "stuck": f"stuck {told[1] + 1 if told[0] == 'stuck' else 0} {told[-1]}",
               "ends": f"ends {told[-1]}"}[told[0]]
        text = " ".join(row) or "-"
        self.assertEqual(desk.say(f"goes {text}"), due)
        if told[0] == "stuck":
            self.assertEqual(desk.say(f"known {text}"), due)
        elif told[0] == "well":
            known = [("+" if truth else "-") + name for name, truth in known_in(house, told[1][-1])]
            self.assertEqual(desk.say(f"known {text}"), " ".join(known) or "nothing")
            less = read_row(desk.say(f"spare {text}"))
            self.assertEqual(row_goes(house, firsts, less)[0], "well")
            self.assertLessEqual(len(less), len(row))


class TestRefused(DeskCase):
    """[51]"""

    ASKED = ["sure", "many", "goes -", "goes flip", "known -", "known flip", "good -", "good flip", "spare -", "spare flip",
             "tree", "looks"]

    def test_before_any_house(self):
        self.assert_said(Desk(), [(row, NoneYet) for row in self.ASKED])
        desk = Desk()
        for row in ROWS:
            desk.say("row " + row)
        self.assert_said(desk, [(row, NoneYet) for row in self.ASKED] + [("read", "worlds 2"), ("sure", "row flip ring")])

    def test_behind_a_read_that_was_refused_alone(self):
        desk = Desk()
        self.assert_said(desk, [("read", NoText)] + [(row, NoneYet) for row in self.ASKED])

    def test_no_form(self):
        rows = ["", " ", "  ", "x", "help", "Sure", "SURE", "sure ", " sure", "sure x", "sure -", "sure sure", "many ", "many 1",
                "clear ", " clear", "clear all", "clears", "read ", " read", "read x", "readrow", "tree ", "tree x", "tree -", "trees",
                "looks ", "looks -", "look", "looks x", "goes", "known", "good", "spare", "goes ", "known ", "good ", "spare ",
                "stuck", "well", "none", "worlds", "Goes -", "GOES -", "goes\t-", "goes  -", " goes -", "goes - ", "sure\t", "\tsure"]
        for desk in (Desk(), desk_with(ROWS)):
            self.assert_said(desk, [(row, NoForm) for row in rows])

    def test_rows_of_no_form(self):
        bad = ["", " ", "--", "- -", "flip  ring", " flip", "flip ", "flip  ", "Flip", "FLIP", "flip Ring", "flip1", "1", "fl-ip",
               "flip,ring", "flip;", "flip; end", ":flip", "+flip", "ninelette", "flip ninelette", "\u00e4", "flip\tring", "flip\r",
               "flip\u00a0ring", "- flip", "flip -", "(flip)", "[flip]", "-flip", "!", "'flip'", "x" * 2000,
               " ".join(["flip"] * 101), " ".join(["flip"] * 200), " ".join(["none"] * 101)]
        for desk in (Desk(), desk_with(ROWS)):
            for word in ("goes", "known", "good", "spare"):
                self.assert_said(desk, [(f"{word} {each}", NoForm) for each in bad])

    def test_a_hundred_names_have_a_form(self):
        row = " ".join(["none"] * 100)
        for word in ("goes", "known", "good", "spare"):
            self.assert_said(Desk(), [(f"{word} {row}", NoneYet), (f"{word} {row} none", NoForm)])
            self.assert_said(desk_with(ROWS), [(f"{word} {row}", NoDeed), (f"{word} {row} none", NoForm)])

    def test_a_row_with_a_line_feed(self):
        rows = ["\n", "sure\n", "\nsure", "row \n", "row facts a\nfirst 0", "row\n", "clear\n", "read\n", "goes flip\n", "goes flip\nring",
                "goes\nflip", "goes -\n", "\n\n", "tree\nlooks"]
        for desk in (Desk(), desk_with(ROWS)):
            self.assert_said(desk, [(row, NoForm) for row in rows])

    def test_no_form_goes_ahead_of_all(self):
        desk = Desk()
        self.assert_said(desk, [("sure ", NoForm), ("goes Flip", NoForm), ("goes", NoForm), ("read ", NoForm), ("goes none", NoneYet)])
        self.assert_said(desk_with(ROWS), [("goes None", NoForm), ("spare none none ", NoForm), ("spare none none", NoDeed)])

    def test_none_yet_goes_ahead_of_what_the_stages_refuse(self):
        self.assert_said(Desk(), [("goes none", NoneYet), ("spare -", NoneYet), ("known none", NoneYet), ("good none", NoneYet)])

    def test_what_the_stages_refuse(self):
        self.assert_said(desk_with(ROWS), [
            ("goes none", NoDeed), ("goes flip none", NoDeed), ("goes ring none", NoDeed), ("known none", NoDeed),
            ("known ring none", NoDeed), ("good none", NoDeed), ("good flip none", NoDeed), ("spare none", NoDeed),
            ("spare ring none", NoDeed), ("spare -", NoPlan), ("spare ring", NoPlan), ("goes peep", NoDeed), ("goes left", NoDeed)])

    def test_what_read_refuses(self):
        desk = Desk()
        self.assert_said(desk, [("row facts a a", "ok"), ("row first 0", "ok"), ("read", NoText), ("row wish yes", "ok"),
                                ("read", NoHouse), ("row facts", "ok"), ("read", NoText)])


class TestDesks(DeskCase):
    """[2] and [3]"""

    def test_two_desks_know_nothing_of_one_another(self):
        one, other = Desk(), Desk()
        for row in ROWS:
            one.say("row " + row)
        self.assert_said(other, [("read", NoText), ("sure", NoneYet)])
        self.assertEqual(one.say("read"), "worlds 2")
        self.assert_said(other, [("sure", NoneYet), ("row facts a", "ok"), ("clear", "ok")])
        self.assert_said(one, [("read", "worlds 2"), ("sure", "row flip ring")])
        self.assert_said(other, [("row facts a", "ok"), ("row first 0", "ok"), ("row wish yes", "ok"), ("read", "worlds 1"),
                                 ("sure", "row -")])
        self.assert_said(one, [("sure", "row flip ring"), ("clear", "ok")])
        self.assert_said(other, [("read", "worlds 1")])
        self.assert_said(Desk(), [("read", NoText), ("many", NoneYet)])

    def test_what_is_refused_changes_nothing(self):
        desk = desk_with(ROWS)
        bad = [("row", NoForm), ("row a\n", NoForm), ("clear ", NoForm), ("read x", NoForm), ("goes none", NoDeed), ("spare -", NoPlan),
               ("sure ", NoForm), ("x", NoForm)]
        for row, due in bad:
            self.assert_said(desk, [(row, due), ("sure", "row flip ring"), ("read", "worlds 2"), ("many", "1")])

    def test_asked_twice_the_same_is_answered(self):
        desk = desk_with(ROWS)
        asked = ["sure", "many", "goes flip", "known flip", "good flip ring", "spare flip flip flip ring", "tree", "looks", "read"]
        told = [desk.say(row) for row in asked]
        self.assertEqual([desk.say(row) for row in asked], told)
        self.assertEqual([desk.say(row) for row in asked[::-1]], told[::-1])
        self.assertTrue(all(answer.__class__ is str and answer == " ".join(answer.split()) for answer in told))


if __name__ == "__main__":
    unittest.main()
