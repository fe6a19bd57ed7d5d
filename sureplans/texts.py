"""Texts: houses, rows, trees and conditions, written and read."""

from sureplans.errors import NoText
from sureplans.houses import house_of
from sureplans.trees import MANY_WITHIN, tree_of_heads

LETTERS = "abcdefghijklmnopqrstuvwxyz"
FIGURES = "0123456789"
LONGEST_NAME = 8

# What has more brackets within one another is refused, whatever it writes.
MOST_BRACKETS = 1000

SIGNS = {"both": "&", "either": "|"}
KINDS = {"&": "both", "|": "either"}


def show_house(house):
    """The house written in rows."""
    facts, deeds, looks, firsts, wish = house
    rows = [["facts"] + facts]
    rows += [deed_words(deed) for deed in deeds]
    rows += [["see", name, show_condition(need), show_condition(seen)] for name, need, seen in looks]
    rows.append(["first"] + [str(world) for world in firsts])
    rows.append(["wish", show_condition(wish)])
    return "\n".join([" ".join(words) for words in rows])


def deed_words(deed):
    """The words of a deed's row."""
    name, need, ways = deed
    words = ["do", name, show_condition(need)]
    for way in ways:
        words.append("/")
        for when, fact, truth in way:
            sign = "+" if truth else "-"
            words.append(f"{sign}{fact}@{show_condition(when)}")
    return words


def show_row(row):
    """The row written."""
    return " ".join(row) if len(row) > 0 else "-"


def show_tree(tree):
    """The tree written."""
    return put_together(tree, tree_pieces)


def show_condition(condition):
    """The condition written."""
    return put_together(condition, condition_pieces)


def put_together(whole, pieces_of):
    """The text of a whole that has pieces: signs, and wholes of the same kind."""
    signs = []
    todo = [whole]
    while todo:
        piece = todo.pop()
        if isinstance(piece, str):
            signs.append(piece)
        else:
            todo.extend(pieces_of(piece)[::-1])
    return "".join(signs)


def tree_pieces(tree):
    """The pieces of which a tree is written."""
    if tree[0] == "end":
        return ["end"]
    if tree[0] == "do":
        return [f"do {tree[1]}; ", tree[2]]
    return [f"see {tree[1]} [", tree[2], "] [", tree[3], "]"]


def condition_pieces(condition):
    """The pieces of which a condition is written."""
    kind = condition[0]
    if kind == "yes":
        return ["yes"]
    if kind == "fact":
        return [":yes" if condition[1] == "yes" else condition[1]]
    if kind == "not":
        return ["!", condition[1]]
    return ["(", condition[1], SIGNS[kind], condition[2], ")"]


def read_house(text):
    """The house that the text writes; NoText where it writes none, NoHouse where what it writes is none."""
    rows = [row.split(" ") for row in text.split("\n")]
    heads = [words[0] for words in rows]
    deeds = heads.count("do")
    looks = heads.count("see")
    if heads != ["facts"] + ["do"] * deeds + ["see"] * looks + ["first", "wish"]:
        raise NoText("not the rows of a house")
    return house_of(
        facts_read(rows[0]),
        [deed_read(words) for words in rows[1:deeds + 1]],
        [look_read(words) for words in rows[deeds + 1:-2]],
        firsts_read(rows[-2]),
        wish_read(rows[-1]),
    )


def facts_read(words):
    """The facts of their row."""
    if len(words) < 2:
        raise NoText("no facts")
    return [name_read(word) for word in words[1:]]


def deed_read(words):
    """The deed of its row."""
    if len(words) < 4 or words[3] != "/":
        raise NoText("not the row of a deed")
    ways = []
    for word in words[3:]:
        if word == "/":
            ways.append([])
        else:
            ways[-1].append(change_read(word))
    return (name_read(words[1]), read_condition(words[2]), ways)


def change_read(word):
    """The change that a word writes."""
    sign = word[:1]
    fact, _, when = word[1:].partition("@")
    if sign not in ("+", "-"):
        raise NoText("not a change")
    return (read_condition(when), name_read(fact), sign == "+")


def look_read(words):
    """The look of its row."""
    if len(words) != 4:
        raise NoText("not the row of a look")
    return (name_read(words[1]), read_condition(words[2]), read_condition(words[3]))


def firsts_read(words):
    """The first worlds of their row."""
    if len(words) < 2:
        raise NoText("no first worlds")
    return [number_read(word) for word in words[1:]]


def wish_read(words):
    """The wish of its row."""
    if len(words) != 2:
        raise NoText("not the row of a wish")
    return read_condition(words[1])


def read_row(text):
    """The row that the text writes."""
    if text == "-":
        return []
    return [name_read(word) for word in text.split(" ")]


def read_tree(text):
    """The tree that the text writes."""
    refuse_deep(text)
    heads = heads_read(text)
    if not are_one_tree(heads):
        raise NoText("not the parts of one tree")
    tree = tree_of_heads(heads)
    # Brackets and the like were left out, so that they may have been wrong.
    if show_tree(tree) != text:
        raise NoText("not the signs of a tree")
    return tree


def heads_read(text):
    """The heads of the parts of the tree that the text may write, in the order of the walk down."""
    heads = []
    words = text.split(" ")
    place = 0
    while place < len(words):
        word = words[place].strip("[]")
        if word == "end":
            heads.append((word,))
            place += 1
        elif word in MANY_WITHIN and place + 1 < len(words):
            heads.append((word, name_read(words[place + 1].strip(";"))))
            place += 2
        else:
            raise NoText("not a part of a tree")
    return heads


def are_one_tree(heads):
    """Whether these are the heads of all parts of just one tree."""
    due = 1
    for head in heads:
        if due == 0:
            return False
        due += MANY_WITHIN[head[0]] - 1
    return due == 0


def read_condition(text):
    """The condition that the text writes."""
    refuse_deep(text)
    done = []
    for token in tokens_of(text):
        if token == ")":
            close_bracket(done)
        elif token in ("(", "!", "&", "|"):
            done.append(token)
        else:
            done.append(plain_condition(token))
        turn_over(done)
    if len(done) != 1 or isinstance(done[0], str):
        raise NoText("not one condition")
    return done[0]


def tokens_of(text):
    """The signs of a condition, and its names with their colons."""
    if " " in text:
        raise NoText("a blank in a condition")
    parted = text
    for sign in "()!&|":
        parted = parted.replace(sign, f" {sign} ")
    return [token for token in parted.split(" ") if token != ""]


def plain_condition(token):
    """The condition that has no others within."""
    if token == "yes":
        return ("yes",)
    return ("fact", name_read(token[1:] if token[0] == ":" else token))


def close_bracket(done):
    """Put what stands behind the last open bracket together to one condition."""
    if len(done) < 4 or done[-4] != "(" or isinstance(done[-3], str):
        raise NoText("a bracket too many")
    if done[-2] not in ("&", "|") or isinstance(done[-1], str):
        raise NoText("not two conditions in brackets")
    last = done.pop()
    kind = KINDS[done.pop()]
    first = done.pop()
    done.pop()
    done.append((kind, first, last))


def turn_over(done):
    """Put the last condition together with each `!` right ahead of it."""
    while len(done) > 1 and done[-2] == "!" and not isinstance(done[-1], str):
        condition = done.pop()
        done.pop()
        done.append(("not", condition))


def name_read(word):
    """The name that a word is; NoText where it is none."""
    if not 1 <= len(word) <= LONGEST_NAME or not all(sign in LETTERS for sign in word):
        raise NoText("not a name")
    return word


def number_read(word):
    """The number that the figures write; NoText where they write none."""
    if word == "" or not all(sign in FIGURES for sign in word) or (word[0] == "0" and word != "0"):
        raise NoText("not a number")
    number = 0
    # Not by int, which refuses very long ones: they write numbers, though no worlds.
    for sign in word:
        number = number * 10 + FIGURES.index(sign)
    return number


def refuse_deep(text):
    """Refuse with NoText what has too many brackets within one another."""
    deep = 0
    for sign in text:
        if sign in "([":
            deep += 1
        elif sign in ")]":
            deep -= 1
        if deep > MOST_BRACKETS:
            raise NoText("too many brackets within one another")
