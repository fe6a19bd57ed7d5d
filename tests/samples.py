"""What the tests share: samples, and answers worked out in another way than the program does."""

from sureplans.errors import PlanError

YES = ("yes",)
NEVER = ("not", YES)
LETTERS = "abcdefghijkl"


def fact(name):
    return ("fact", name)


def safe_parts():
    """The five of a house: a lamp and a door, each perhaps so; no list stands in it twice."""
    return (
        ["lamp", "door"],
        [
            ("press", YES, [[(fact("lamp"), "lamp", False), (("not", fact("lamp")), "lamp", True)]]),
            ("push", fact("lamp"), [[(YES, "door", True)], []]),
        ],
        [("peep", YES, fact("lamp")), ("feel", fact("lamp"), fact("door"))],
        [0, 1, 3],
        ("both", fact("lamp"), fact("door")),
    )


def bare_parts(facts):
    """The five of a house with these facts and as little else as can be."""
    return (facts, [], [], [0], YES)


def with_part(parts, place, part):
    """The five with another part at one place."""
    return parts[:place] + (part,) + parts[place + 1:]


def refusal_of(call, *arguments):
    """The class of the PlanError that the call raises, or None where it answers."""
    try:
        call(*arguments)
    except PlanError as refused:
        return refused.__class__
    return None


def lists_within(value):
    """All list objects in a value of lists and tuples, itself among them."""
    found = [value] if isinstance(value, list) else []
    if isinstance(value, (list, tuple)):
        for part in value:
            found.extend(lists_within(part))
    return found


def kinds_of(value):
    """The shape of a value: lists, tuples and plain kinds, so that 1 is unlike True."""
    if isinstance(value, (list, tuple)):
        return (value.__class__, [kinds_of(part) for part in value])
    return (value.__class__, value)


def facts_so(facts, world):
    """Which fact is so in the world, as a dict, read off the world's figures in twos."""
    figures = bin(world)[2:].rjust(len(facts), "0")
    return {name: figures[-1 - place] == "1" for place, name in enumerate(facts)}


def world_of(facts, so):
    """The world in which just those facts are so that the dict tells."""
    return int("".join("1" if so[name] else "0" for name in reversed(facts)), 2)


def written(condition):
    """The condition as an expression of Python over the dict `so`."""
    kind = condition[0]
    if kind == "yes":
        return "True"
    if kind == "fact":
        return f"so[{condition[1]!r}]"
    if kind == "not":
        return f"(not {written(condition[1])})"
    sign = {"both": "and", "either": "or"}[kind]
    return f"({written(condition[1])} {sign} {written(condition[2])})"


def holds_by_python(facts, condition, world):
    """Whether the condition holds, as Python itself reckons its expression."""
    return eval(written(condition), {"so": facts_so(facts, world)})


def behind_by_facts(facts, way, world):
    """The world behind a way: for each fact its last change counts, or else it stays."""
    so = facts_so(facts, world)
    for name in facts:
        truths = [truth for when, changed, truth in way
                  if changed == name and holds_by_python(facts, when, world)]
        if truths:
            so[name] = truths[-1]
    return world_of(facts, so)


def random_condition(chance, facts, depth):
    """A condition at most so deep, by a chance that is seeded."""
    kind = chance.choice(["yes", "fact", "fact", "not", "both", "either"] if depth else ["yes", "fact"])
    if kind == "yes":
        return YES
    if kind == "fact":
        return fact(chance.choice(facts))
    many = 1 if kind == "not" else 2
    return (kind,) + tuple(random_condition(chance, facts, depth - 1) for _ in range(many))


def random_way(chance, facts):
    """A way with none to four changes."""
    return [(random_condition(chance, facts, 2), chance.choice(facts), chance.choice([True, False]))
            for _ in range(chance.randint(0, 4))]


def random_parts(chance):
    """The five of a house that is one, by a chance that is seeded."""
    facts = chance.sample(LETTERS, chance.randint(1, 4))
    deeds = [
        (f"deed{letter}", random_condition(chance, facts, 2),
         [random_way(chance, facts) for _ in range(chance.randint(1, 4))])
        for letter in chance.sample(LETTERS, chance.randint(0, 4))
    ]
    looks = [
        (f"look{letter}", random_condition(chance, facts, 2), random_condition(chance, facts, 2))
        for letter in chance.sample(LETTERS, chance.randint(0, 2))
    ]
    return (facts, deeds, looks, list(random_crowd(chance, facts)), random_condition(chance, facts, 3))


def random_crowd(chance, facts):
    """A crowd of one world or more."""
    all_worlds = range(1 << len(facts))
    return tuple(sorted(chance.sample(all_worlds, chance.randint(1, len(all_worlds)))))
