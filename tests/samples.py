"""What the tests share: samples, and answers worked out in another way than the program does."""

from sureplans.errors import PlanError

YES = ("yes",)
NEVER = ("not", YES)
LETTERS = "abcdefghijkl"


def fact(name):
    return ("fact", name)


def safe_parts():
    """The five of a house: a lamp and a door, each perhaps so; no list stands in it twice."""
    return (
        ["lamp", "door"],
        [
            ("press", YES, [[(fact("lamp"), "lamp", False), (("not", fact("lamp")), "lamp", True)]]),
            ("push", fact("lamp"), [[(YES, "door", True)], []]),
        ],
        [("peep", YES, fact("lamp")), ("feel", fact("lamp"), fact("door"))],
        [0, 1, 3],
        ("both", fact("lamp"), fact("door")),
    )


def bare_parts(facts):
    """The five of a house with these facts and as little else as can be."""
    return (facts, [], [], [0], YES)


def with_part(parts, place, part):
    """The five with another part at one place."""
    return parts[:place] + (part,) + parts[place + 1:]


def refusal_of(call, *arguments):
    """The class of the PlanError that the call raises, or None where it answers."""
    try:
        call(*arguments)
    except PlanError as refused:
        return refused.__class__
    return None


def lists_within(value):
    """All list objects in a value of lists and tuples, itself among them."""
    found = [value] if isinstance(value, list) else []
    if isinstance(value, (list, tuple)):
        for part in value:
            found.extend(lists_within(part))
    return found


def kinds_of(value):
    """The shape of a value: lists, tuples and plain kinds, so that 1 is unlike True."""
    if isinstance(value, (list, tuple)):
        return (value.__class__, [kinds_of(part) for part in value])
    return (value.__class__, value)


def facts_so(facts, world):
    """Which fact is so in the world, as a dict, read off the world's figures in twos."""
    figures = bin(world)[2:].rjust(len(facts), "0")
    return {name: figures[-1 - place] == "1" for place, name in enumerate(facts)}


def world_of(facts, so):
    """The world in which just those facts are so that the dict tells."""
    return int("".join("1" if so[name] else "0" for name in reversed(facts)), 2)


def written(condition):
    """The condition as an expression of Python over the dict `so`."""
    kind = condition[0]
    if kind == "yes":
        return "True"
    if kind == "fact":
        return f"so[{condition[1]!r}]"
    if kind == "not":
        return f"(not {written(condition[1])})"
    sign = {"both": "and", "either": "or"}[kind]
    return f"({written(condition[1])} {sign} {written(condition[2])})"


def holds_by_python(facts, condition, world):
    """Whether the condition holds, as Python itself reckons its expression."""
    return eval(written(condition), {"so": facts_so(facts, world)})


def behind_by_facts(facts, way, world):
    """The world behind a way: for each fact its last change counts, or else it stays."""
    so = facts_so(facts, world)
    for name in facts:
        truths = [truth for when, changed, truth in way
                  if changed == name and holds_by_python(facts, when, world)]
        if truths:
            so[name] = truths[-1]
    return world_of(facts, so)


def random_condition(chance, facts, depth):
    """A condition at most so deep, by a chance that is seeded."""
    kind = chance.choice(["yes", "fact", "fact", "not", "both", "either"] if depth else ["yes", "fact"])
    if kind == "yes":
        return YES
    if kind == "fact":
        return fact(chance.choice(facts))
    many = 1 if kind == "not" else 2
    return (kind,) + tuple(random_condition(chance, facts, depth - 1) for _ in range(many))


def random_way(chance, facts):
    """A way with none to four changes."""
    return [(random_condition(chance, facts, 2), chance.choice(facts), chance.choice([True, False]))
            for _ in range(chance.randint(0, 4))]


def random_parts(chance):
    """The five of a house that is one, by a chance that is seeded."""
    facts = chance.sample(LETTERS, chance.randint(1, 4))
    deeds = [
        (f"deed{letter}", random_condition(chance, facts, 2),
         [random_way(chance, facts) for _ in range(chance.randint(1, 4))])
        for letter in chance.sample(LETTERS, chance.randint(0, 4))
    ]
    looks = [
        (f"look{letter}", random_condition(chance, facts, 2), random_condition(chance, facts, 2))
        for letter in chance.sample(LETTERS, chance.randint(0, 2))
    ]
    return (facts, deeds, looks, list(random_crowd(chance, facts)), random_condition(chance, facts, 3))


def random_crowd(chance, facts):
    """A crowd of one world or more."""
    all_worlds = range(1 << len(facts))
    return tuple(sorted(chance.sample(all_worlds, chance.randint(1, len(all_worlds)))))


def joined(kind, conditions):
    """All the conditions as one, by "both" or "either", with as little depth as can be."""
    if len(conditions) == 1:
        return conditions[0]
    middle = len(conditions) // 2
    return (kind, joined(kind, conditions[:middle]), joined(kind, conditions[middle:]))


def only_in(facts, worlds):
    """A condition that holds in these worlds alone."""
    each = [joined("both", [fact(name) if so else ("not", fact(name))
                            for name, so in facts_so(facts, world).items()]) for world in worlds]
    return joined("either", each) if each else NEVER


def mapped_deed(facts, name, behind):
    """A deed that can be done in the worlds that the dict has, with the worlds listed there behind it."""
    ways = []
    for way in range(max(len(worlds) for worlds in behind.values())):
        changes = []
        for world, worlds in behind.items():
            now, then = facts_so(facts, world), facts_so(facts, worlds[min(way, len(worlds) - 1)])
            when = only_in(facts, [world])
            changes += [(when, each, then[each]) for each in facts if now[each] != then[each]]
        ways.append(changes)
    return (name, only_in(facts, list(behind)), ways)


def mapped_parts(many, maps, firsts, well):
    """The five of a house of so many facts whose deeds are told by dicts, and the worlds where its wish holds."""
    facts = list(LETTERS[:many])
    deeds = [mapped_deed(facts, name, behind) for name, behind in maps]
    return (facts, deeds, [], list(firsts), only_in(facts, well))


def maps_of(parts):
    """The deeds of the five as dicts of the worlds behind each world, and the worlds where the wish holds."""
    facts, deeds, _, _, wish = parts
    worlds = range(1 << len(facts))
    maps = [(name, {world: sorted({behind_by_facts(facts, way, world) for way in ways})
                    for world in worlds if holds_by_python(facts, need, world)})
            for name, need, ways in deeds]
    return maps, {world for world in worlds if holds_by_python(facts, wish, world)}


def crowd_by_map(behind, crowd):
    """The crowd behind a deed told by a dict, or None where it can't be done in the crowd."""
    if not all(world in behind for world in crowd):
        return None
    return tuple(sorted({there for world in crowd for there in behind[world]}))


def goes_by_maps(maps, well, crowd, row):
    """What [12] tells, from deeds told by dicts."""
    crowds = [crowd]
    for place, name in enumerate(row):
        behind = dict(maps)[name]
        bars = [world for world in crowds[-1] if world not in behind]
        if bars:
            return ("stuck", place, min(bars))
        crowds.append(crowd_by_map(behind, crowds[-1]))
    bars = [world for world in crowds[-1] if world not in well]
    return ("ends", min(bars)) if bars else ("well", crowds)


def crowds_by_maps(maps, first):
    """All crowds that can be come to, each with the first of the shortest rows to it by the deeds' places."""
    rows = {first: []}
    level = [first]
    while level:
        longer = sorted((rows[crowd] + [place], crowd_by_map(behind, crowd))
                        for crowd in level for place, (_, behind) in enumerate(maps)
                        if crowd_by_map(behind, crowd) is not None)
        level = []
        for row, crowd in longer:
            if crowd not in rows:
                rows[crowd] = row
                level.append(crowd)
    return {crowd: [maps[place][0] for place in row] for crowd, row in rows.items()}


def let_by_maps(maps, well, firsts, paper):
    """Whether a paper of crowds is let by [18], from deeds told by dicts."""
    sets = [set(crowd) for crowd in paper]
    if not any(crowd <= set(firsts) for crowd in sets) or any(crowd <= well for crowd in sets):
        return False
    for crowd in paper:
        for _, behind in maps:
            there = crowd_by_map(behind, crowd)
            if there is not None and not any(each <= set(there) for each in sets):
                return False
    return True


def two_counters(many, others):
    """Deeds by which two worlds count apart, to many - 1 and to others - 1 (its worlds from 128 on), and stay there.

    From (0, 128) just many * others crowds are come to: (i, 128 + j), i + j deeds off.
    """
    ones = {at: [min(at + 1, many - 1)] for at in range(many)}
    twos = {128 + at: [128 + min(at + 1, others - 1)] for at in range(others)}
    stay = {world: [world] for world in [*ones, *twos]}
    return [("one", {**stay, **ones}), ("two", {**stay, **twos})]


def clock(many, others):
    """A deed by which two worlds go round in many and in others (from 128 on), while 256 stays as it is.

    Where these have no divisor, just many * others crowds stand in one long row from (0, 128) on.
    """
    turned = {at: [(at + 1) - (many if at + 1 == many else 0)] for at in range(many)}
    turned.update({128 + at: [128 + (at + 1) - (others if at + 1 == others else 0)] for at in range(others)})
    return [("tick", {**turned, 256: [256]})]


def ruled_maps(number):
    """Two deeds over four worlds, firsts, and the worlds of the wish, by the figures of a number."""
    figures = []
    for _ in range(10):
        number, figure = divmod(number, 7)
        figures.append(figure)
    # What a figure says of a world: the deed can't be done, it leads to one world, or to either of two.
    told = [lambda world: None, lambda world: [0], lambda world: [1], lambda world: [2], lambda world: [3],
            lambda world: sorted({world, (world + 1) % 4}), lambda world: sorted({3 - world, (world + 2) % 4})]
    maps = []
    for name, places in (("go", range(0, 4)), ("act", range(4, 8))):
        behind = {world: told[figures[place]](world) for world, place in enumerate(places)}
        maps.append((name, {world: there for world, there in behind.items() if there is not None}))
    firsts = [[0], [0, 1], [1, 2], [0, 3], [0, 1, 2], [1, 2, 3], [0, 1, 2, 3]][figures[8]]
    well = [{0}, {3}, {0, 2}, {2, 3}, {1, 3}, {0, 1, 3}, {1, 2}][figures[9]]
    return [each for each in maps if each[1]], firsts, well


def ruled_samples(many):
    """So many of these, by a fixed rule, far apart from one another."""
    return [ruled_maps(place * 104729 * 7 + place) for place in range(1, many + 1)]


def with_looks(parts, looks):
    """The five with looks told as (name, worlds where they can be looked at, worlds in which they see yes)."""
    facts = parts[0]
    return with_part(parts, 2, [(name, only_in(facts, need), only_in(facts, seen)) for name, need, seen in looks])


def seen_by(parts):
    """The looks of the five as tuples (name, set of worlds where the need holds, set of worlds where seen holds)."""
    facts, _, looks, _, _ = parts
    worlds = range(1 << len(facts))
    return [(name, *({world for world in worlds if holds_by_python(facts, condition, world)}
                     for condition in (need, seen))) for name, need, seen in looks]


def sides_by_map(look, crowd):
    """Both sides of a crowd for a look told by sets, or None where it can't be looked at."""
    _, need, seen = look
    if not set(crowd) <= need:
        return None
    return (tuple(sorted(set(crowd) & seen)), tuple(sorted(set(crowd) - seen)))


def walk_by_maps(maps, looks, well, crowd, tree, way=()):
    """The walk of [33], by calls within calls: (kind, way, worlds) for each part that bars it, and each end."""
    if tree[0] == "end":
        bars = set(crowd) - well
        yield ("ends", way, bars) if bars else ("well", way, crowd)
    elif tree[0] == "do":
        behind = dict(maps)[tree[1]]
        bars = set(crowd) - set(behind)
        if bars:
            yield ("stuck", way, bars)
        else:
            yield from walk_by_maps(maps, looks, well, crowd_by_map(behind, crowd), tree[2], way + (tree[1],))
    else:
        look = next(each for each in looks if each[0] == tree[1])
        bars = set(crowd) - look[1]
        if bars:
            yield ("stuck", way, bars)
        else:
            for side, truth, within in zip(sides_by_map(look, crowd), (True, False), tree[2:]):
                if side:
                    yield from walk_by_maps(maps, looks, well, side, within, way + ((tree[1], truth),))


def tree_goes_by_maps(maps, looks, well, crowd, tree):
    """What [33] tells, from deeds told by dicts and looks told by sets."""
    ends = []
    for kind, way, worlds in walk_by_maps(maps, looks, well, crowd, tree):
        if kind != "well":
            return (kind, list(way), min(worlds))
        ends.append(worlds)
    return ("well", ends)


def crowds_with_looks(maps, looks, first):
    """All crowds that can be come to by deeds and by sides that aren't ()."""
    found, todo = {first}, [first]
    while todo:
        crowd = todo.pop()
        behind = [crowd_by_map(each, crowd) for _, each in maps]
        for look in looks:
            behind += sides_by_map(look, crowd) or ()
        for there in behind:
            if there and there not in found:
                found.add(there)
                todo.append(there)
    return found


def parts_by_maps(maps, looks, well, crowd, depth, kept):
    """How few parts a tree of at most this depth has that goes well from the crowd, or None; by plain trial."""
    if set(crowd) <= well:
        return 1
    if depth == 0:
        return None
    if (crowd, depth) not in kept:
        choices = [(crowd_by_map(behind, crowd),) for _, behind in maps]
        choices += [sides_by_map(look, crowd) or (None,) for look in looks]
        found = []
        for crowds in choices:
            if None not in crowds and () not in crowds:
                within = [parts_by_maps(maps, looks, well, each, depth - 1, kept) for each in crowds]
                if None not in within:
                    found.append(1 + sum(within))
        kept[(crowd, depth)] = min(found, default=None)
    return kept[(crowd, depth)]


def least_by_maps(maps, looks, well, crowd, most):
    """The least depth, at most this, and its least parts, of a tree that goes well from the crowd, or None."""
    kept = {}
    for depth in range(most + 1):
        parts = parts_by_maps(maps, looks, well, crowd, depth, kept)
        if parts is not None:
            return (depth, parts)
    return None


def let_by_with_looks(maps, looks, well, firsts, paper):
    """Whether a paper of crowds is let by [36], from deeds told by dicts and looks told by sets."""
    sets = [set(crowd) for crowd in paper]
    for crowd in paper:
        for look in looks:
            sides = sides_by_map(look, crowd)
            if sides is not None and not any(each <= set(side) for each in sets for side in sides):
                return False
    return let_by_maps(maps, well, firsts, paper)


def all_trees(deeds, looks, depth):
    """All trees of at most this depth over names of deeds and looks."""
    trees = [("end",)]
    if depth > 0:
        within = all_trees(deeds, looks, depth - 1)
        trees += [("do", name, tree) for name in deeds for tree in within]
        trees += [("see", name, yes, no) for name in looks for yes in within for no in within]
    return trees


def random_tree(chance, deeds, looks, depth):
    """A tree of at most this depth over names of deeds and looks, by a chance that is seeded."""
    kinds = (["do"] * 3 if deeds else []) + (["see"] * 2 if looks else [])
    if depth == 0 or not kinds or chance.random() < 0.2:
        return ("end",)
    if chance.choice(kinds) == "do":
        return ("do", chance.choice(deeds), random_tree(chance, deeds, looks, depth - 1))
    return ("see", chance.choice(looks), random_tree(chance, deeds, looks, depth - 1),
            random_tree(chance, deeds, looks, depth - 1))


def ruled_looks(number):
    """Two looks over four worlds, by the figures of a number, told by sets of worlds."""
    needs = [range(4), range(4), [0, 1], [1, 2, 3], [2, 3]]
    seens = [[0], [1], [3], [0, 1], [1, 2], [0, 3], [], [0, 1, 2, 3]]
    number, one = divmod(number, 5)
    number, other = divmod(number, 5)
    number, first = divmod(number, 8)
    return [("peep", set(needs[one]), set(seens[first])), ("feel", set(needs[other]), set(seens[number % 8]))]


def ruled_with_looks(many):
    """So many samples with looks, by a fixed rule: deeds, looks, firsts, the worlds of the wish, and the five."""
    samples = []
    for place, (maps, firsts, well) in enumerate(ruled_samples(many)):
        looks = ruled_looks(place * 37 + place // 5)
        samples.append((maps, looks, firsts, well, with_looks(mapped_parts(2, maps, firsts, well), looks)))
    return samples
