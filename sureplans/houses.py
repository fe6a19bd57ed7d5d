"""Houses: facts, deeds, looks, first worlds and a wish, and where conditions hold."""

from sureplans.errors import NoHouse

# The places of the five in the tuple of a house.
FACTS = 0
DEEDS = 1
LOOKS = 2
FIRSTS = 3
WISH = 4


def house_of(facts, deeds, looks, firsts, wish):
    """The house made of the five, all its lists new; NoHouse where they make none."""
    # Tuples may be shared, for nobody can change them; but those of deeds hold lists.
    own_deeds = [(name, need, [list(way) for way in ways]) for name, need, ways in deeds]
    house = (list(facts), own_deeds, list(looks), list(firsts), wish)
    if has_twice(house[FACTS]) or has_twice(names_to_call(house)):
        raise NoHouse("a name is there twice")
    if not names_known_facts(house):
        raise NoHouse("a fact is named that is none")
    if not all(len(ways) > 0 for name, need, ways in own_deeds):
        raise NoHouse("a deed has no ways")
    if not are_worlds(house, house[FIRSTS]):
        raise NoHouse("the firsts are not one or more worlds, rising")
    return house


def holds_in(house, condition, world):
    """Whether the condition holds in the world."""
    kind = condition[0]
    if kind == "yes":
        return True
    if kind == "fact":
        return is_so(house, condition[1], world)
    if kind == "not":
        return not holds_in(house, condition[1], world)
    if kind == "both":
        return holds_in(house, condition[1], world) and holds_in(house, condition[2], world)
    return holds_in(house, condition[1], world) or holds_in(house, condition[2], world)


def worlds_where(house, condition):
    """All worlds in which the condition holds, rising."""
    return [world for world in range(worlds_in_all(house)) if holds_in(house, condition, world)]


def holds_in_each(house, condition, crowd):
    """Whether the condition holds in each world of the crowd."""
    return all(holds_in(house, condition, world) for world in crowd)


def is_so(house, fact, world):
    """Whether the fact is so in the world."""
    return (world & fact_bit(house, fact)) > 0


def fact_bit(house, fact):
    """The world in which this fact alone is so."""
    return 1 << house[FACTS].index(fact)


def worlds_in_all(house):
    """How many worlds there are of the house's facts."""
    return 1 << len(house[FACTS])


def is_world(house, number):
    """Whether this is a world of the house: True and False are no whole numbers."""
    if isinstance(number, bool) or not isinstance(number, int):
        return False
    return 0 <= number < worlds_in_all(house)


def are_worlds(house, numbers):
    """Whether these are worlds of the house, one at least, rising, each once."""
    if len(numbers) == 0 or not all(is_world(house, number) for number in numbers):
        return False
    return list(numbers) == sorted(set(numbers))


def has_twice(names):
    """Whether one of the names is there twice."""
    return len(set(names)) < len(names)


def names_to_call(house):
    """The names of the deeds and the looks."""
    return [deed[0] for deed in house[DEEDS]] + [look[0] for look in house[LOOKS]]


def names_known_facts(house):
    """Whether everything in the house names the house's facts alone."""
    facts = house[FACTS]
    return (
        all(deed_names_only(facts, deed) for deed in house[DEEDS])
        and all(look_names_only(facts, look) for look in house[LOOKS])
        and names_only(facts, house[WISH])
    )


def deed_names_only(facts, deed):
    """Whether the need and the changes of the deed name these facts alone."""
    _, need, ways = deed
    return names_only(facts, need) and all(way_names_only(facts, way) for way in ways)


def way_names_only(facts, way):
    """Whether the changes of the way name these facts alone."""
    return all(fact in facts and names_only(facts, when) for when, fact, truth in way)


def look_names_only(facts, look):
    """Whether what the look needs and what it sees name these facts alone."""
    _, need, seen = look
    return names_only(facts, need) and names_only(facts, seen)


def names_only(facts, condition):
    """Whether the condition names these facts alone."""
    # Not by calls within calls: a text may write a condition that is deeper than they can be.
    todo = [condition]
    while todo:
        part = todo.pop()
        if part[0] != "fact":
            todo.extend(part[1:])
        elif part[1] not in facts:
            return False
    return True
