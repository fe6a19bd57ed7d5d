"""The desk: rows told to it, each of them answered by a text."""

from sureplans.apart import good_worlds
from sureplans.crowds import crowd_of, number_of
from sureplans.doing import steps_of_row
from sureplans.errors import NoForm, NoneYet, NoText
from sureplans.houses import FIRSTS
from sureplans.looking import looks_in
from sureplans.rows import crowds_along, known_in, row_goes
from sureplans.spare import row_made_less
from sureplans.sure import how_many_rows, sure_row
from sureplans.texts import read_house, read_row, show_row
from sureplans.treesure import sure_counts

LONGEST_ROW = 100


def answer_sure(house):
    """The shortest row, or never."""
    kind, told = sure_row(house)
    return f"row {show_row(told)}" if kind == "row" else kind


def answer_many(house):
    """How many rows of the least length go well."""
    return str(how_many_rows(house))


def answer_tree(house):
    """The depth and the parts of the least tree, or never."""
    counts = sure_counts(house)
    return "never" if counts is None else f"tree {counts[0]} {counts[1]}"


def answer_looks(house):
    """What looks would tell."""
    told = looks_in(house, firsts_of(house))
    return " ".join(f"{look} {many} {others}" for look, many, others in told) if len(told) > 0 else "none"


def answer_goes(house, row):
    """How the row goes."""
    told = row_goes(house, firsts_of(house), row)
    if told[0] == "well":
        return "well"
    if told[0] == "ends":
        return f"ends {told[1]}"
    return f"stuck {told[1] + 1} {told[2]}"


def answer_known(house, row):
    """What is known behind the row, or where it gets stuck."""
    crowds = crowds_along(steps_of_row(house, row), number_of(house[FIRSTS]))
    if len(crowds) <= len(row):
        return answer_goes(house, row)
    known = known_in(house, crowd_of(crowds[-1]))
    return " ".join(signed(fact, truth) for fact, truth in known) if len(known) > 0 else "nothing"


def signed(fact, truth):
    """The fact with the sign of its truth ahead."""
    return f"+{fact}" if truth else f"-{fact}"


def answer_good(house, row):
    """From how many worlds the row goes well."""
    return str(len(good_worlds(house, row)))


def answer_spare(house, row):
    """The row made less."""
    return show_row(row_made_less(house, firsts_of(house), row))


# What is asked of a house, by the first word of the row: with nothing behind it, or with a row of deeds.
ALONE = {"sure": answer_sure, "many": answer_many, "tree": answer_tree, "looks": answer_looks}
WITH_ROW = {"goes": answer_goes, "known": answer_known, "good": answer_good, "spare": answer_spare}


class Desk:
    """A desk: it gathers a house's rows, reads them, and answers what is asked of the house."""

    def __init__(self):
        self.rows = []
        self.house = None

    def say(self, row):
        """The answer to a row."""
        word, _, rest = row.partition(" ")
        refuse_no_form(row)
        if word == "row":
            self.rows.append(rest)
            return "ok"
        if word == "clear":
            self.rows = []
            return "ok"
        if word == "read":
            self.house = read_house("\n".join(self.rows))
            return f"worlds {len(self.house[FIRSTS])}"
        if self.house is None:
            raise NoneYet("no house was read")
        if word in ALONE:
            answer = ALONE[word]
            return answer(self.house)
        answer = WITH_ROW[word]
        return answer(self.house, read_row(rest))


def firsts_of(house):
    """The firsts as a crowd."""
    return tuple(house[FIRSTS])


def refuse_no_form(row):
    """Refuse with NoForm a row that has no form."""
    word, blank, rest = row.partition(" ")
    if "\n" in row or not has_form(word, blank, rest):
        raise NoForm("not a row for the desk")


def has_form(word, blank, rest):
    """Whether the word may stand ahead of what is behind it, and of the blank where there is one."""
    if word == "row":
        return blank == " "
    if word in WITH_ROW:
        return is_row(rest)
    return blank == "" and (word in ("clear", "read") or word in ALONE)


def is_row(text):
    """Whether the text writes a row of deeds that is not too long."""
    try:
        row = read_row(text)
    except NoText:
        return False
    return len(row) <= LONGEST_ROW
