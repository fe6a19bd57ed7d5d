"""Tests of sureplans.texts: points [2], [3], [44], [45] and [46]."""

import copy
import random
import unittest

from sureplans.errors import NoHouse, NoText
from sureplans.houses import house_of
from sureplans.texts import (
    read_condition, read_house, read_row, read_tree, show_condition, show_house, show_row, show_tree)
from sureplans.trees import tree_of_row
from tests.samples import (
    LETTERS, YES, all_trees, bare_parts, fact, kinds_of, lists_within, random_condition, random_parts, random_tree,
    refusal_of, safe_parts, with_part)

END = ("end",)
LAMP, DOOR = fact("lamp"), fact("door")

SAFE_TEXT = """facts lamp door
do press yes / -lamp@lamp +lamp@!lamp
do push lamp / +door@yes /
see peep yes lamp
see feel lamp door
first 0 1 3
wish (lamp&door)"""

# Texts that are neither a name nor a condition, a row, a tree.
NO_NAMES = ["", " ", "\n", "a b", "A", "aB", "a1", "1", "a_", "a.", ":", "::a", "a:", "-a", "+a", "ninelette", "x" * 2000,
            "\u00e4", "\u00df", "\u0430", "a\t", "\ta", "a\n", "\na", " a", "a ", "a\u00a0", "'a'", "a,b", "\u00b2", "a\r"]


def replaced(text, old, new):
    """The text with one row or word of it replaced; that it stands there is made sure."""
    assert old in text, old
    return text.replace(old, new, 1)


class TestShowCondition(unittest.TestCase):
    """[44], of conditions, and back."""

    WRITTEN = [
        (YES, "yes"), (LAMP, "lamp"), (fact("yes"), ":yes"), (fact("no"), "no"), (fact("eightlet"), "eightlet"),
        (("not", YES), "!yes"), (("not", LAMP), "!lamp"), (("not", ("not", LAMP)), "!!lamp"),
        (("not", fact("yes")), "!:yes"), (("both", LAMP, DOOR), "(lamp&door)"), (("either", LAMP, DOOR), "(lamp|door)"),
        (("both", YES, fact("yes")), "(yes&:yes)"), (("not", ("both", LAMP, DOOR)), "!(lamp&door)"),
        (("both", ("not", LAMP), DOOR), "(!lamp&door)"), (("both", LAMP, ("not", DOOR)), "(lamp&!door)"),
        (("both", ("either", LAMP, DOOR), YES), "((lamp|door)&yes)"),
        (("both", YES, ("either", LAMP, DOOR)), "(yes&(lamp|door))"),
        (("either", ("both", LAMP, LAMP), ("not", ("not", ("either", DOOR, YES)))), "((lamp&lamp)|!!(door|yes))"),
    ]

    def test_written_by_hand(self):
        for condition, text in self.WRITTEN:
            self.assertEqual(show_condition(condition), text)

    def test_read_by_hand(self):
        for condition, text in self.WRITTEN:
            self.assertEqual(kinds_of(read_condition(text)), kinds_of(condition))

    def test_others_may_have_the_colon_when_read(self):
        self.assertEqual(read_condition(":lamp"), LAMP)
        self.assertEqual(read_condition("!:lamp"), ("not", LAMP))
        self.assertEqual(read_condition("(:lamp&door)"), ("both", LAMP, DOOR))
        self.assertEqual(read_condition("(lamp|:door)"), ("either", LAMP, DOOR))
        self.assertEqual(read_condition(":eightlet"), fact("eightlet"))
        self.assertEqual(show_condition(read_condition(":lamp")), "lamp")

    def test_what_is_written_is_read_to_the_same(self):
        chance = random.Random(44)
        names = ["yes", "a", "fact", "not", "eightlet", "end"]
        for _ in range(500):
            condition = random_condition(chance, names, chance.randint(0, 8))
            self.assertEqual(read_condition(show_condition(condition)), condition)

    def test_twenty_and_more_within_one_another(self):
        for make in (lambda c: ("not", c), lambda c: ("both", c, DOOR), lambda c: ("either", LAMP, c)):
            condition = LAMP
            for deep in range(40):
                self.assertEqual(read_condition(show_condition(condition)), condition)
                condition = make(condition)

    def test_no_text(self):
        texts = [
            "", " ", "()", "(", ")", "!", "&", "|", ":", "(C)", "(lamp)", "(lamp", "lamp)", "(lamp&)", "(&lamp)", "(lamp&door",
            "lamp&door", "lamp|door", "lamp&door)", "(lamp&door))", "((lamp&door)", "(lamp&door&lamp)", "(lamp,door)",
            "(lamp+door)", "(lampdoor)", "((lamp&door))", "(lamp!door)", "(lamp!&door)", "(lamp&!)", "(&&lamp)", "(!&lamp)", "((&lamp)", "(|&lamp)", "(lamp&&)", "(lamp&()",
            "(lamp!lamp)", "((lamp&door)", "(lamp(lamp)", "!(lamp)", "lamp!", "!&",
            "(lamp&&door)", "(lamp||door)", "(lamp&|door)", "(lamp& door)", "(lamp &door)", " lamp", "lamp ", "! lamp",
            "( lamp&door)", "(lamp&door) ", "lamp lamp", "lamp\n", "\nlamp", "(lamp&\ndoor)", "lamp\t", "(lamp\t&door)",
            ":", "::lamp", "lamp:", ":!lamp", ":(lamp&door)", ":yes:yes", "y:es", "!:", "(:&door)", "YES", "Lamp", "lamp1", "la-mp",
            "ninelette", ":ninelette", "!ninelette", "(ninelette&lamp)", "x" * 2000, "\u00e4", "(lamp\u00a0&door)",
            "(lamp&door)lamp", "lamp(lamp&door)", "(lamp&door)(lamp&door)", "(lamp&door)!", "yesyesyes", "[lamp&door]", "{lamp}",
            "-", "yes;", "'yes'", "0", "(yes&0)", "(()&())", "(!&!)", ")lamp&door(", "&lamp", "|lamp&door", "(lamp&(door|lamp)",
        ]
        for text in texts:
            self.assertIs(refusal_of(read_condition, text), NoText, text)

    def test_any_sign_that_is_none(self):
        good = set("()!&|:") | set("abcdefghijklmnopqrstuvwxyz")
        for sign in [chr(number) for number in range(32, 127)] + ["\n", "\t", "\r", "\u00e9", "\u2028", "\x00"]:
            if sign not in good:
                for text in (sign, "lamp" + sign, sign + "lamp", f"(lamp{sign}door)", f"(lamp&{sign}door)", f"!{sign}yes"):
                    self.assertIs(refusal_of(read_condition, text), NoText, text)

    def test_more_than_a_thousand_brackets_within_one_another(self):
        for many in (1001, 1500, 20000):
            self.assertIs(refusal_of(read_condition, "(" * many), NoText)
            self.assertIs(refusal_of(read_condition, "(" * many + ")" * many), NoText)
            self.assertIs(refusal_of(read_condition, ")" * many), NoText)
            self.assertIs(refusal_of(read_condition, "!(" * many + "lamp" + ")" * many), NoText)
            # These have the form, but are refused like any other.
            self.assertIs(refusal_of(read_condition, "(" * many + "lamp" + "&door)" * many), NoText)
            self.assertIs(refusal_of(read_condition, "(lamp|" * many + "door" + ")" * many), NoText)

    def test_brackets_beside_one_another_are_not_within(self):
        text = "(a&b)"
        for _ in range(9):
            text = f"({text}|{text})"
        self.assertGreater(text.count("("), 1000)
        self.assertEqual(show_condition(read_condition(text)), text)

    def test_mixed_up_texts_are_read_only_as_they_are_written(self):
        chance = random.Random(45)
        read = 0
        for _ in range(30000):
            text = "".join(chance.choice("(()))!&&|ab:") for _ in range(chance.randint(1, 8)))
            if refusal_of(read_condition, text) is None:
                read += 1
                self.assertEqual(show_condition(read_condition(text)), text.replace(":", ""))
        self.assertGreater(read, 300)


class TestShowHouse(unittest.TestCase):
    """[44], of houses, and back."""

    def assert_written(self, parts, text):
        self.assertEqual(show_house(house_of(*parts)), text)
        self.assertEqual(kinds_of(read_house(text)), kinds_of(house_of(*parts)))

    def test_a_house_by_hand(self):
        self.assert_written(safe_parts(), SAFE_TEXT)

    def test_without_deeds_and_looks(self):
        self.assert_written(bare_parts(["a"]), "facts a\nfirst 0\nwish yes")
        self.assert_written((["b", "a"], [], [], [0, 2, 3], ("not", fact("a"))), "facts b a\nfirst 0 2 3\nwish !a")

    def test_without_deeds(self):
        parts = with_part(bare_parts(["a"]), 2, [("see", fact("a"), YES)])
        self.assert_written(parts, "facts a\nsee see a yes\nfirst 0\nwish yes")

    def test_without_looks(self):
        parts = with_part(bare_parts(["a"]), 1, [("do", YES, [[]])])
        self.assert_written(parts, "facts a\ndo do yes /\nfirst 0\nwish yes")

    def test_ways_without_changes(self):
        for ways, text in (([[]], "/"), ([[], []], "/ /"), ([[], [], [], []], "/ / / /"),
                           ([[(YES, "a", True)], []], "/ +a@yes /"), ([[], [(YES, "a", False)]], "/ / -a@yes"),
                           ([[(YES, "a", True)], [], [(YES, "a", False)]], "/ +a@yes / / -a@yes")):
            parts = with_part(bare_parts(["a"]), 1, [("go", fact("a"), ways)])
            self.assert_written(parts, f"facts a\ndo go a {text}\nfirst 0\nwish yes")

    def test_changes(self):
        ways = [[(("both", fact("a"), ("not", fact("b"))), "a", True), (YES, "b", False), (fact("b"), "a", False)]]
        parts = with_part(bare_parts(["a", "b"]), 1, [("go", YES, ways)])
        self.assert_written(parts, "facts a b\ndo go yes / +a@(a&!b) -b@yes -a@b\nfirst 0\nwish yes")

    def test_a_fact_called_yes(self):
        parts = (["yes", "no"], [("yes", fact("yes"), [[(fact("yes"), "yes", False), (YES, "yes", True)]])],
                 [("no", YES, fact("yes"))], [1], ("either", fact("yes"), fact("no")))
        self.assert_written(parts, "facts yes no\ndo yes :yes / -yes@:yes +yes@yes\nsee no yes :yes\nfirst 1\n"
                                   "wish (:yes|no)")

    def test_names_like_words_of_a_text(self):
        parts = (["facts", "first", "wish", "do", "see", "end"], [("do", fact("do"), [[]]), ("wish", YES, [[]])],
                 [("see", YES, fact("see")), ("first", YES, YES)], [63], fact("wish"))
        self.assert_written(parts, "facts facts first wish do see end\ndo do do /\ndo wish yes /\nsee see yes see\n"
                                   "see first yes yes\nfirst 63\nwish wish")

    def test_great_houses(self):
        facts = list(LETTERS[:10])
        deeds = [("go" + name, fact(name), [[(YES, name, True)], []]) for name in facts]
        looks = [("see" + name, YES, fact(name)) for name in facts[:6]]
        house = house_of(facts, deeds, looks, list(range(0, 1024, 16)), fact("j"))
        text = show_house(house)
        self.assertIn("\nfirst 0 16 32 ", text)
        self.assertIn(" 992 1008\nwish j", text)
        self.assertEqual(read_house(text), house)

    def test_what_is_written_is_read_to_the_same(self):
        chance = random.Random(46)
        for _ in range(300):
            house = house_of(*random_parts(chance))
            text = show_house(house)
            self.assertEqual(kinds_of(read_house(text)), kinds_of(house))
            self.assertEqual(show_house(read_house(text)), text)


class TestReadHouse(unittest.TestCase):
    """[45]"""

    def refused(self, refusal, text):
        self.assertIs(refusal_of(read_house, text), refusal, text)

    def changed(self, refusal, old, new):
        self.refused(refusal, replaced(SAFE_TEXT, old, new))

    def test_names_in_conditions_may_have_the_colon(self):
        text = replaced(SAFE_TEXT, "do push lamp / +door@yes /", "do push :lamp / +door@yes /")
        self.assertEqual(read_house(text), house_of(*safe_parts()))
        text = replaced(SAFE_TEXT, "-lamp@lamp", "-lamp@:lamp")
        self.assertEqual(read_house(text), house_of(*safe_parts()))
        text = replaced(SAFE_TEXT, "(lamp&door)", "(:lamp&:door)")
        self.assertEqual(read_house(text), house_of(*safe_parts()))

    def test_no_rows(self):
        for text in ("", "\n", " ", "\n\n\n", "facts", "house", "a", "-"):
            self.refused(NoText, text)

    def test_a_row_missing(self):
        rows = SAFE_TEXT.split("\n")
        for place in (0, 5, 6):
            self.refused(NoText, "\n".join(rows[:place] + rows[place + 1:]))
        self.refused(NoText, "first 0\nwish yes")
        self.refused(NoText, "facts a\nwish yes")
        self.refused(NoText, "facts a\nfirst 0")

    def test_a_row_twice(self):
        rows = SAFE_TEXT.split("\n")
        for place in (0, 5, 6):
            self.refused(NoText, "\n".join(rows[:place] + [rows[place]] + rows[place:]))

    def test_rows_in_another_order(self):
        rows = SAFE_TEXT.split("\n")
        for place in (0, 2, 4, 5):
            turned = rows[:place] + [rows[place + 1], rows[place]] + rows[place + 2:]
            self.refused(NoText, "\n".join(turned))
        self.refused(NoText, "\n".join(rows[::-1]))
        self.refused(NoText, "\n".join(rows[1:] + rows[:1]))

    def test_a_row_too_many(self):
        rows = SAFE_TEXT.split("\n")
        for place in range(len(rows) + 1):
            for more in ("", " ", "end", "say x", "facts", "/"):
                self.refused(NoText, "\n".join(rows[:place] + [more] + rows[place:]))

    def test_line_feeds_at_the_ends(self):
        self.refused(NoText, SAFE_TEXT + "\n")
        self.refused(NoText, "\n" + SAFE_TEXT)
        self.refused(NoText, SAFE_TEXT.replace("\n", "\n\n"))
        self.refused(NoText, SAFE_TEXT.replace("\n", "\r\n"))
        self.refused(NoText, SAFE_TEXT.replace("\n", " "))

    def test_first_words(self):
        for old, new in (("facts ", "fact "), ("facts ", "FACTS "), ("facts ", "facts: "), ("do press", "doo press"),
                         ("do press", "DO press"), ("see peep", "look peep"), ("first", "firsts"), ("wish", "want"),
                         ("facts lamp", "lamp"), ("wish (", "("), ("first 0", "0")):
            self.changed(NoText, old, new)

    def test_facts_have_a_word_at_least(self):
        self.changed(NoText, "facts lamp door", "facts")
        self.changed(NoText, "facts lamp door", "facts ")

    def test_firsts_have_a_word_at_least(self):
        self.changed(NoText, "first 0 1 3", "first")
        self.changed(NoText, "first 0 1 3", "first ")

    def test_a_deed_has_a_way_at_least(self):
        self.changed(NoText, "do push lamp / +door@yes /", "do push lamp")
        self.changed(NoText, "do push lamp / +door@yes /", "do push lamp ")
        self.changed(NoText, "do push lamp / +door@yes /", "do push lamp +door@yes")
        self.changed(NoText, "do push lamp / +door@yes /", "do push lamp +door@yes /")
        self.changed(NoText, "do push lamp / +door@yes /", "do push /")
        self.changed(NoText, "do push lamp / +door@yes /", "do push")
        self.changed(NoText, "do push lamp / +door@yes /", "do")
        self.assertEqual(read_house(replaced(SAFE_TEXT, "/ +door@yes /", "/"))[1][1][2], [[]])

    def test_a_word_too_few(self):
        for old, new in (("see peep yes lamp", "see peep yes"), ("see peep yes lamp", "see peep"), ("see peep yes lamp", "see"),
                         ("wish (lamp&door)", "wish"), ("do press yes /", "do press /"), ("do press yes /", "do yes /")):
            self.changed(NoText, old, new)

    def test_a_word_too_many(self):
        for old, new in (("see peep yes lamp", "see peep yes lamp lamp"), ("wish (lamp&door)", "wish (lamp&door) yes"),
                         ("do press yes /", "do press yes yes /"), ("do press yes /", "do press yes / /x"),
                         ("wish (lamp&door)", "wish lamp door")):
            self.changed(NoText, old, new)

    def test_two_blanks(self):
        places = [place for place, sign in enumerate(SAFE_TEXT) if sign == " "]
        for place in places:
            self.refused(NoText, SAFE_TEXT[:place] + " " + SAFE_TEXT[place:])

    def test_a_blank_at_an_end(self):
        rows = SAFE_TEXT.split("\n")
        for place in range(len(rows)):
            self.refused(NoText, "\n".join(rows[:place] + [rows[place] + " "] + rows[place + 1:]))
            self.refused(NoText, "\n".join(rows[:place] + [" " + rows[place]] + rows[place + 1:]))

    def test_other_blanks(self):
        places = [place for place, sign in enumerate(SAFE_TEXT) if sign == " "]
        for place in places:
            for sign in ("\t", "\r", "\u00a0", "\x0b", "_", ",", ""):
                text = SAFE_TEXT[:place] + sign + SAFE_TEXT[place + 1:]
                self.assertIn(refusal_of(read_house, text), (NoText, NoHouse) if sign == "" else (NoText,), text)

    def test_names(self):
        for name in NO_NAMES:
            if name != "a b":
                self.changed(NoText, "facts lamp", f"facts {name}")
            self.changed(NoText, "do press", f"do {name}")
            self.changed(NoText, "see peep", f"see {name}")
            self.changed(NoText, "+door@yes", f"+{name}@yes")
        self.changed(NoText, "facts lamp", "facts :lamp")
        self.changed(NoText, "do press", "do :press")
        self.changed(NoText, "+door@yes", "+:door@yes")

    def test_conditions(self):
        for bad in ("", "(lamp)", "(lamp&door", "lamp&door", "(lamp&door))", "LAMP", "!", "1", "/", "+lamp", "lamp@", "ninelette"):
            self.changed(NoText, "do press yes /", f"do press {bad} /")
            self.changed(NoText, "see peep yes lamp", f"see peep {bad} lamp")
            self.changed(NoText, "see peep yes lamp", f"see peep yes {bad}")
            self.changed(NoText, "wish (lamp&door)", f"wish {bad}")
            self.changed(NoText, "+door@yes", f"+door@{bad}")

    def test_changes(self):
        for bad in ("door@yes", "+door", "-door", "+", "-", "@", "+@", "+@yes", "+door@", "@yes", "*door@yes", "++door@yes",
                    "+-door@yes", "+door@@yes", "+door@yes@yes", "+ door@yes", "+door @yes", "+door@ yes", "+!door@yes",
                    "/+door@yes", "+door@yes/", "!door@yes", "\u2212door@yes"):
            self.changed(NoText, "+door@yes", bad)

    def test_worlds(self):
        for bad in ("00", "01", "03", "-1", "+1", "1.", "0x1", "1_0", "a", "1a", "\u00b2", "\u0661", "1,2", "''", "!1", "-0"):
            self.changed(NoText, "first 0 1 3", f"first {bad}")
            self.changed(NoText, "first 0 1 3", f"first 0 {bad}")
        self.assertEqual(read_house(replaced(SAFE_TEXT, "first 0 1 3", "first 0"))[3], [0])
        self.assertEqual(read_house(replaced(SAFE_TEXT, "first 0 1 3", "first 1 2"))[3], [1, 2])

    def test_figures_of_more_than_one_sign(self):
        text = "facts a b c d e f g h i j\nfirst 9 10 100 1000 1023\nwish yes"
        self.assertEqual(read_house(text)[3], [9, 10, 100, 1000, 1023])
        self.refused(NoText, text.replace(" 9 ", " 09 "))
        self.refused(NoHouse, text.replace("1023", "1024"))

    def test_more_than_a_thousand_brackets_within_one_another(self):
        for many in (1001, 1300):
            for deep in ("(" * many + "lamp" + "&door)" * many, "(" * many, "(lamp|" * many + "door" + ")" * many):
                self.changed(NoText, "wish (lamp&door)", f"wish {deep}")
                self.changed(NoText, "do press yes /", f"do press {deep} /")
                self.changed(NoText, "+door@yes", f"+door@{deep}")

    def test_what_has_the_form_and_is_no_house(self):
        for old, new in (("facts lamp door", "facts lamp lamp"), ("facts lamp door", "facts lamp"),
                         ("facts lamp door", "facts lamp door lamp"), ("do push", "do press"), ("see feel", "see peep"),
                         ("see feel", "see push"), ("do push lamp", "do push lump"), ("do push lamp", "do push :doors"),
                         ("+door@yes", "+dor@yes"), ("+door@yes", "+yes@yes"), ("-lamp@lamp", "-lamp@(lamp&dark)"),
                         ("see peep yes lamp", "see peep no lamp"), ("see peep yes lamp", "see peep yes :yes"),
                         ("first 0 1 3", "first 0 1 4"), ("first 0 1 3", "first 1 0 3"), ("first 0 1 3", "first 0 0"),
                         ("first 0 1 3", "first 4"), ("first 0 1 3", "first 99999999999999999999"),
                         ("wish (lamp&door)", "wish dark"), ("wish (lamp&door)", "wish !:yes")):
            self.changed(NoHouse, old, new)

    def test_figures_of_a_very_long_number(self):
        self.changed(NoHouse, "first 0 1 3", "first " + "9" * 3000)
        self.changed(NoHouse, "first 0 1 3", "first 0 1 " + "1" + "0" * 4500)
        self.changed(NoText, "first 0 1 3", "first 0" + "9" * 3000)

    def test_no_text_goes_ahead_of_no_house(self):
        for old, new in (("facts lamp door", "facts lamp lamp"), ("do push", "do press"), ("first 0 1 3", "first 3 1"),
                         ("+door@yes", "+dor@yes")):
            text = replaced(SAFE_TEXT, old, new)
            self.refused(NoText, replaced(text, "wish (lamp&door)", "wish (lamp&door"))
            self.refused(NoText, replaced(text, "see feel lamp door", "see feel lamp"))
            self.refused(NoText, text + "\n")

    def test_any_text(self):
        chance = random.Random(47)
        signs = "abflampdorseewish01 \n/+-@()!&|:[];"
        for _ in range(3000):
            self.refused(NoText, "".join(chance.choice(signs) for _ in range(chance.randint(0, 60))))
        for text in ("\x00", "\u20ac" * 10, "facts \u20ac\nfirst 0\nwish yes", "(" * 4000, "\n" * 4000, "facts " * 600):
            self.refused(NoText, text)

    def test_a_text_with_one_sign_changed_is_another_house_or_none(self):
        chance = random.Random(48)
        told = []
        for _ in range(3000):
            place = chance.randrange(len(SAFE_TEXT))
            text = SAFE_TEXT[:place] + chance.choice("abdelmoprsy01 \n/+-@()!&|:") + SAFE_TEXT[place + 1:]
            refused = refusal_of(read_house, text)
            told.append(refused)
            if refused is None:
                self.assertEqual(show_house(read_house(text)), text)
            else:
                self.assertIn(refused, (NoText, NoHouse))
        self.assertEqual(set(told), {None, NoText, NoHouse})


class TestRows(unittest.TestCase):
    """[46], of rows."""

    WRITTEN = [([], "-"), (["go"], "go"), (["go", "go"], "go go"), (["press", "push", "eightlet"], "press push eightlet"),
               (["end", "do", "see", "yes"], "end do see yes")]

    def test_by_hand(self):
        for row, text in self.WRITTEN:
            self.assertEqual(show_row(row), text)
            self.assertEqual(kinds_of(read_row(text)), kinds_of(row))

    def test_a_hundred_names(self):
        row = [LETTERS[at * at % 12] * (at % 8 + 1) for at in range(100)]
        self.assertEqual(read_row(show_row(row)), row)
        self.assertEqual(read_row(" ".join(row * 20)), row * 20)

    def test_no_text(self):
        texts = ["", " ", "  ", "--", "- -", "-go", "go -", "- go", " go", "go ", "go  go", "go\n", "\ngo", "go\ngo", "go\tgo",
                 "go;go", "go;", "go,", "Go", "GO", "go1", "1", ":go", "ninelette", "go ninelette", "\u00e4", "go\u00a0go", "[go]",
                 "(go)", "go; end", "/", "!go", "'go'", "\x00", " -", "- ", "-\n"]
        for text in texts:
            self.assertIs(refusal_of(read_row, text), NoText, text)

    def test_more_than_a_thousand_brackets(self):
        for text in ("(" * 1500, "[" * 1500 + "go" + "]" * 1500, "x" * 2000, " " * 2000):
            self.assertIs(refusal_of(read_row, text), NoText)


class TestTrees(unittest.TestCase):
    """[46], of trees."""

    WRITTEN = [
        (END, "end"), (("do", "go", END), "do go; end"), (("do", "go", ("do", "on", END)), "do go; do on; end"),
        (("see", "peep", END, END), "see peep [end] [end]"),
        (("see", "peep", ("do", "go", END), END), "see peep [do go; end] [end]"),
        (("see", "peep", END, ("do", "go", END)), "see peep [end] [do go; end]"),
        (("do", "go", ("see", "peep", END, END)), "do go; see peep [end] [end]"),
        (("see", "peep", ("see", "feel", END, ("do", "go", END)), ("see", "feel", ("do", "on", END), END)),
         "see peep [see feel [end] [do go; end]] [see feel [do on; end] [end]]"),
        (("do", "end", ("see", "do", ("do", "see", END), END)), "do end; see do [do see; end] [end]"),
        (("do", "do", ("do", "end", END)), "do do; do end; end"),
        (("see", "end", END, ("see", "see", END, END)), "see end [end] [see see [end] [end]]"),
    ]

    def test_by_hand(self):
        for tree, text in self.WRITTEN:
            self.assertEqual(show_tree(tree), text)
            self.assertEqual(kinds_of(read_tree(text)), kinds_of(tree))

    def test_what_is_written_is_read_to_the_same(self):
        chance = random.Random(49)
        trees = all_trees(["go", "end"], ["see"], 3)
        trees += [random_tree(chance, ["go", "do", "eightlet"], ["peep", "see"], 9) for _ in range(200)]
        for tree in trees:
            self.assertEqual(read_tree(show_tree(tree)), tree)

    def test_deep_trees(self):
        tree = END
        for _ in range(130):
            tree = ("see", "a", ("do", "b", tree), END)
        self.assertEqual(read_tree(show_tree(tree)), tree)
        tree = tree_of_row(["go"] * 260)
        self.assertEqual(read_tree(show_tree(tree)), tree)

    def test_no_text(self):
        texts = [
            "", " ", "-", "en", "endd", "END", "End", "end ", " end", "end end", "end;", "end; end", "end see peep [end]", "end see peep end", "end do go; end", "end see peep [end] [end]", "[end]", "(end)", "end]", "[end",
            "do", "do ", "do go", "do go;", "do go; ", "do go;end", "do go end", "do go ; end", "do  go; end", "do go;  end",
            "do go;; end", "do ;go; end", "do; go; end", "do go, end", "do go: end", "do go; end;", "do go; end ", " do go; end",
            "do go; end end", "do go; do", "do go; do on", "do; end", "do ; end", "DO go; end", "do Go; end", "do ninelette; end",
            "do go1; end", "do g o; end", "do :go; end", "do -; end", "do go; [end]", "[do go; end]", "do [go]; end", "do go; (end)",
            "do go\n; end", "do go;\nend", "do\tgo; end", "go; end", "do go; on; end", "do go; go",
            "see", "see peep", "see peep [end]", "see peep [end] ", "see peep [end][end]", "see peep [end]  [end]", "see peep end end",
            "see peep [end] end", "see peep end [end]", "see peep [end] [end", "see peep [end] end]", "see peep [end [end]",
            "see peep [end] [end]]", "see peep [[end] [end]", "see peep [[end]] [end]", "see peep [] []", "see peep [end] []",
            "see peep [ end] [end]", "see peep [end ] [end]", "see peep[end] [end]", "see  peep [end] [end]", "see [end] [end]",
            "see peep (end) (end)", "see peep [end]; [end]", "see peep; [end] [end]", "see peep [end] [end] [end]",
            "see peep [end] [end];", "see peep [end] [end] ", " see peep [end] [end]", "see peep [end] [end]\n", "see ninelette [end] [end]",
            "see Peep [end] [end]", "see peep [do go; end]] [end]", "see peep [do go; end [end]]", "see peep [do go end] [end]",
            "see peep [do go; end] end", "see peep [see feel [end]] [end] [end]", "see peep ]end[ ]end[", "see peep [end], [end]",
            "do go; see peep [end]", "see peep [do go;] [end]", "see do go; end] [end]", "[see peep [end] [end]]", "look peep [end] [end]",
            "yes", "do go; end\x00", "\u00e4", "do g\u00e4; end",
        ]
        for text in texts:
            self.assertIs(refusal_of(read_tree, text), NoText, text)

    def test_a_name_that_is_none(self):
        for name in NO_NAMES:
            self.assertIs(refusal_of(read_tree, f"do {name}; end"), NoText)
            self.assertIs(refusal_of(read_tree, f"see {name} [end] [end]"), NoText)

    def test_more_than_a_thousand_brackets_within_one_another(self):
        for many in (1001, 1500, 3000):
            for text in ("[" * many, "[" * many + "end" + "]" * many, "]" * many, "see a " * many, "see a [" * many,
                         # These have the form, but are refused like any other.
                         "see a [" * many + "end" + "] [end]" * many, "see a [end] [" * many + "end" + "]" * many):
                self.assertIs(refusal_of(read_tree, text), NoText)

    def test_brackets_beside_one_another_are_not_within(self):
        text = "see a [end] [end]"
        for _ in range(9):
            text = f"see a [{text}] [{text}]"
        self.assertGreater(text.count("["), 1000)
        self.assertEqual(show_tree(read_tree(text)), text)

    def test_a_text_with_one_sign_changed_is_another_tree_or_none(self):
        chance = random.Random(50)
        read = 0
        for _ in range(5000):
            _, text = chance.choice(self.WRITTEN)
            place = chance.randrange(len(text))
            cut = chance.choice([0, 1])
            text = text[:place] + chance.choice(["", *"abdeno;[] :"]) + text[place + cut:]
            refused = refusal_of(read_tree, text)
            if refused is None:
                read += 1
                self.assertEqual(show_tree(read_tree(text)), text)
            else:
                self.assertIs(refused, NoText)
        self.assertGreater(read, 300)


class TestToldAndHandedIn(unittest.TestCase):
    """[2] and [3]"""

    def test_what_is_handed_in_stays(self):
        house, row = house_of(*safe_parts()), ["go", "on"]
        before = copy.deepcopy((house, row))
        show_house(house)
        show_row(row)
        self.assertEqual((house, row), before)

    def test_what_is_read_is_new(self):
        told, again = read_house(SAFE_TEXT), read_house(SAFE_TEXT)
        lists = lists_within([told, again])
        self.assertEqual(len({id(each) for each in lists}), len(lists))
        for each in lists_within(told):
            each.append("spoilt")
        self.assertEqual(read_house(SAFE_TEXT), again)
        for text in ("-", "go on"):
            told, again = read_row(text), read_row(text)
            told.append("spoilt")
            self.assertEqual(read_row(text), again)

    def test_refused_and_answered_after(self):
        self.assertIs(refusal_of(read_house, SAFE_TEXT + " "), NoText)
        self.assertIs(refusal_of(read_house, replaced(SAFE_TEXT, "do push", "do press")), NoHouse)
        self.assertEqual(read_house(SAFE_TEXT), house_of(*safe_parts()))

    def test_a_text_is_told(self):
        for told in (show_house(house_of(*safe_parts())), show_row([]), show_row(["go"]), show_tree(END), show_condition(YES)):
            self.assertIs(told.__class__, str)


if __name__ == "__main__":
    unittest.main()
