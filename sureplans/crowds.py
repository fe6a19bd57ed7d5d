"""Crowds as whole numbers, what deeds and looks do to them, and the search among them.

Here a crowd is a number whose bit w tells that the world w is in it, and 0 is nothing. Whether one crowd lies within
another, or was found before, is then a matter of a few sums, and thousands of crowds are searched soon.
"""

from collections import deque

from sureplans.errors import TooMany
from sureplans.houses import DEEDS, FIRSTS, WISH, fact_bit, worlds_in_all

# As many crowds, or pairs of them, are found at most in one search.
MOST_FOUND = 2000

# The worlds are taken so many at a time where a deed is done.
PIECE = 8
WHOLE_PIECE = 255

# Numbers of the greatest houses are very long, and so taken apart by so many worlds at a time.
CHUNK = 1024

# What is behind pieces of a crowd is kept for houses of at most so many worlds: for greater ones it would be too much.
MOST_WORLDS_KEPT = 4096


def number_of(worlds):
    """The crowd of these worlds as a number."""
    chunks = {}
    for world in worlds:
        at = world // CHUNK
        chunks[at] = chunks.get(at, 0) | (1 << (world - at * CHUNK))
    number = 0
    for at, chunk in chunks.items():
        number |= chunk << (at * CHUNK)
    return number


def crowd_of(number):
    """The crowd as a tuple of its worlds, rising."""
    worlds = []
    for at, chunk in enumerate(chunks_of(number)):
        left = chunk
        while left > 0:
            world = least_world(left)
            worlds.append(at * CHUNK + world)
            left -= 1 << world
    return tuple(worlds)


def chunks_of(number):
    """The crowd in chunks: the first worlds of the house, the next ones, and so on up to the last of the crowd."""
    whole = (1 << CHUNK) - 1
    chunks = []
    while number > 0:
        chunks.append(number & whole)
        number >>= CHUNK
    return chunks


def is_in_chunks(chunks, world):
    """Whether the world is in the crowd of these chunks."""
    at = world // CHUNK
    return at < len(chunks) and ((chunks[at] >> (world - at * CHUNK)) & 1) > 0


def least_world(number):
    """The least world of a crowd."""
    return (number & -number).bit_length() - 1


def within(one, other):
    """Whether all worlds of the one crowd are among the other's."""
    return (one & other) == one


def outside(one, other):
    """The worlds of the one crowd that are not among the other's."""
    return one - (one & other)


def where(house, condition):
    """All worlds in which the condition holds."""
    kind = condition[0]
    if kind == "yes":
        return everywhere(house)
    if kind == "fact":
        return where_so(house, condition[1])
    if kind == "not":
        return everywhere(house) - where(house, condition[1])
    if kind == "both":
        return where(house, condition[1]) & where(house, condition[2])
    return where(house, condition[1]) | where(house, condition[2])


def everywhere(house):
    """All worlds of the house."""
    return (1 << worlds_in_all(house)) - 1


def where_so(house, fact):
    """All worlds in which the fact is so."""
    bit = fact_bit(house, fact)
    # So many worlds where it is not so, as many where it is so, and this again and again.
    so = ((1 << bit) - 1) << bit
    width = 2 * bit
    while width < worlds_in_all(house):
        so |= so << width
        width = 2 * width
    return so


def world_by(way, world):
    """The world behind a way of a step, whose whens are crowds in chunks."""
    behind = world
    for when, bit, truth in way:
        # Each when is asked of the world ahead: the changes are made at once.
        if is_in_chunks(when, world):
            behind = behind | bit if truth else (behind | bit) - bit
    return behind


class Step:
    """A deed made ready to be done in many crowds."""

    def __init__(self, house, deed):
        name, need, ways = deed
        self.name = name
        self.need = where(house, need)
        self.ways = [
            [(chunks_of(where(house, when)), fact_bit(house, fact), truth) for when, fact, truth in way] for way in ways
        ]
        # What a way down a tree tells for the tree within.
        self.marks = (name,)
        self.is_great = worlds_in_all(house) > MOST_WORLDS_KEPT
        self.kept = {}
        self.singles = None
        self.good = {}

    def can(self, crowd):
        """Whether the deed can be done in each world of the crowd."""
        return within(crowd, self.need)

    def crowds_behind(self, crowd):
        """The crowds that the deed leads to, just one."""
        return (self.behind(crowd),)

    def behind(self, crowd):
        """All worlds behind the deed, done in a crowd in which it can be."""
        if self.is_great:
            return number_of([there for world in crowd_of(crowd) for there in self.worlds_behind(world)])
        found = 0
        while crowd > 0:
            at = least_world(crowd) // PIECE * PIECE
            piece = (crowd >> at) & WHOLE_PIECE
            found |= self.behind_piece(at, piece)
            crowd -= piece << at
        return found

    def behind_piece(self, at, piece):
        """All worlds behind a piece of a crowd, from the world `at` on."""
        # Kept, for in a search the same pieces come again and again.
        if (at, piece) not in self.kept:
            low = piece & -piece
            if piece == low:
                self.kept[(at, piece)] = number_of(self.worlds_behind(at + least_world(piece)))
            else:
                self.kept[(at, piece)] = self.behind_piece(at, low) | self.behind_piece(at, piece - low)
        return self.kept[(at, piece)]

    def worlds_behind(self, world):
        """The world behind each way of the deed."""
        return [world_by(way, world) for way in self.ways]

    def good_ahead(self, goods):
        """All worlds in which the deed can be done, and behind which there are none but of the one good crowd."""
        good = goods[0]
        # Kept, for plans that are made less ask for the same again and again.
        if good not in self.good:
            self.good[good] = number_of(self.great_ahead(good) if self.is_great else self.worlds_ahead(good))
        return self.good[good]

    def worlds_ahead(self, good):
        """The same as a list of worlds."""
        if self.singles is None:
            self.singles = [(world, self.behind(1 << world)) for world in crowd_of(self.need)]
        return [world for world, behind in self.singles if within(behind, good)]

    def great_ahead(self, good):
        """The same in a great house, where the crowds behind each world are too long to be kept."""
        chunks = chunks_of(good)
        return [
            world for world in crowd_of(self.need)
            if all(is_in_chunks(chunks, there) for there in self.worlds_behind(world))
        ]


class Look:
    """A look made ready for many crowds: what a deed's step tells of the deed, this tells of the look."""

    def __init__(self, house, look):
        name, need, seen = look
        self.name = name
        self.need = where(house, need)
        self.seen = where(house, seen)
        self.marks = ((name, True), (name, False))

    def can(self, crowd):
        """Whether the look can be looked at in each world of the crowd."""
        return within(crowd, self.need)

    def crowds_behind(self, crowd):
        """The two sides of the crowd, yes ahead, either one perhaps nothing."""
        return (crowd & self.seen, outside(crowd, self.seen))

    def good_ahead(self, goods):
        """All worlds in which the look can be looked at, and which are among those of the good crowd of their side."""
        yes, no = goods
        return self.need & ((self.seen & yes) | outside(no, self.seen))


class Ground:
    """A house made ready for searches among crowds."""

    def __init__(self, house):
        self.steps = [Step(house, deed) for deed in house[DEEDS]]
        self.firsts = number_of(house[FIRSTS])
        self.wish = where(house, house[WISH])

    def is_well(self, crowd):
        """Whether this is a crowd, and the wish holds in each of its worlds."""
        return crowd > 0 and within(crowd, self.wish)

    def steps_from(self, crowd):
        """A tuple for each deed that can be done in the crowd: its place in the house, and the crowd behind."""
        return [(place, step.behind(crowd)) for place, step in enumerate(self.steps) if step.can(crowd)]

    def choices_in(self, crowd):
        """A tuple for each deed that can be done in the crowd: of the one crowd behind."""
        return [step.crowds_behind(crowd) for step in self.steps if step.can(crowd)]


def search(start, steps_from, is_sought):
    """What is found from the start on, in the order of how few deeds lead there, and of these by the deeds' places.

    Told is a dict from each thing found to what it was found from and the place of the deed (None for the start),
    and the first thing found that is sought, or None where all is found and nothing is sought.
    """
    found = {start: None}
    if is_sought(start):
        return found, start
    queue = deque([start])
    while queue:
        here = queue.popleft()
        for place, there in steps_from(here):
            if there not in found:
                refuse_too_many(found)
                found[there] = (here, place)
                if is_sought(there):
                    return found, there
                queue.append(there)
    return found, None


def refuse_too_many(found):
    """Refuse one more than may be found."""
    if len(found) >= MOST_FOUND:
        raise TooMany(f"more than {MOST_FOUND} are found")


def row_to(steps, found, there):
    """The row of names of deeds that leads from the start of a search to what was found there."""
    row = []
    while found[there] is not None:
        there, place = found[there]
        row.append(steps[place].name)
    row.reverse()
    return row
