"""Looking into each world for itself: what the tests hold the program's answers against.

A key is told as (opens, plain, entries), a door as its entries.
"""

from itertools import product
from random import Random

from keyroll.books import Book

SOMEBODY_ELSE = "somebody else"
NOTHING = "nothing"


def moments_of(entries):
    """All the moments at which the entries of a row can be begun."""
    spans = [range(early, late + 1) for _, early, late in entries]
    return [moments for moments in product(*spans) if list(moments) == sorted(moments)]


def may_be_begun(entries, moments):
    """Whether the entries of a row can be begun at just these moments."""
    return (
        len(moments) == len(entries)
        and all(early <= begun <= late for (_, early, late), begun in zip(entries, moments))
        and list(moments) == sorted(moments)
    )


def at_moment(entries, moments, moment):
    """The one entry in force at the moment, when they are begun at these moments."""
    found = NOTHING
    for at, entry in enumerate(entries):
        behind = moments[at + 1] if at + 1 < len(entries) else 1000
        if moments[at] <= moment < behind:
            found = entry[0]
    return found


def known_as(entries, somebody):
    """The entries, whoever isn't known being this one."""
    return [(somebody if person is None else person, early, late) for person, early, late in entries]


def can(keys, door, world, person, moment, copies):
    """Whether the person can open the door in the one world, by points [5] and [7]."""
    *begun, fits = world
    lock = at_moment(door, fits, moment)
    for (opens, plain, entries), moments in zip(keys, begun):
        times = range(moments[0], moment + 1) if copies and plain and moments else [moment]
        if lock in opens and any(at_moment(entries, moments, when) == person for when in times):
            return True
    return False


def worlds_of(keys, door):
    return product(*[moments_of(entries) for _, _, entries in keys], moments_of(door))


def answer(keys, door, person, moment):
    """What could must tell, by looking into each world for itself."""
    others = [(opens, plain, known_as(entries, SOMEBODY_ELSE)) for opens, plain, entries in keys]
    own = [(opens, plain, known_as(entries, person)) for opens, plain, entries in keys]
    worlds = list(worlds_of(keys, door))
    if all(can(others, door, world, person, moment, False) for world in worlds):
        return "surely"
    if any(can(own, door, world, person, moment, True) for world in worlds):
        return "maybe"
    return "no"


def book_of(persons, keys=(), *doors):
    """A book of these keys and doors; with one door that has no lock, if none is told."""
    book = Book(persons, len(doors) or 1)
    for opens, plain, entries in keys:
        name = book.cut(opens, plain)
        for place, entry in enumerate(entries):
            book.hand(name, place, *entry)
    for door, entries in enumerate(doors):
        for place, entry in enumerate(entries):
            book.fit(door, place, *entry)
    return book


def some_row(chance, whats, longest, soonest):
    """A row by chance whose entries can all be begun, within four moments."""
    while True:
        row = []
        for _ in range(chance.randrange(longest + 1)):
            early, late = sorted([chance.randrange(4), chance.randrange(4)])
            row.append((chance.choice(whats), soonest + early, soonest + late))
        if moments_of(row):
            return row


def some_books(seed, many):
    """Books by chance (the same for a seed): (persons, keys, door, moments worth asking)."""
    chance = Random(seed)
    for _ in range(many):
        persons = chance.randrange(1, 4)
        soonest = chance.choice((0, 0, 40, 996))
        keys = []
        for _ in range(chance.choice((0, 1, 1, 2, 2, 3))):
            opens = chance.choice(((), (1,), (1, 2), (2,), (1, 2, 3)))
            whats = [*range(persons), None, chance.randrange(persons)]
            keys.append((opens, chance.random() < 0.5, some_row(chance, whats, 3, soonest)))
        door = some_row(chance, (1, 2, 1), 2, soonest)
        moments = range(max(0, soonest - 1), min(999, soonest + 5) + 1)
        yield persons, keys, door, moments


def shown_is_right(keys, door, person, moment, told):
    """Whether what shown told is as point [9] asks."""
    name, begun, when, fits = told
    opens, plain, entries = keys[name]
    return (
        may_be_begun(entries, begun)
        and 0 <= when <= moment
        and at_moment(entries, begun, when) in (person, None)
        and (when == moment or plain)
        and may_be_begun(door, fits)
        and at_moment(door, fits, moment) in opens
    )


def denied_is_right(keys, door, person, moment, told):
    """Whether what denied told is as point [9] asks."""
    begun, fits = told
    others = [(opens, plain, known_as(entries, SOMEBODY_ELSE)) for opens, plain, entries in keys]
    return (
        len(begun) == len(keys)
        and all(may_be_begun(entries, moments) for (_, _, entries), moments in zip(keys, begun))
        and may_be_begun(door, fits)
        and not can(others, door, (*begun, fits), person, moment, False)
    )
