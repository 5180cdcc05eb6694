"""Rows of entries, for keys and doors alike.

An entry is a tuple (what, early, late): what is a person, None for one who
isn't known, or a kind of lock. A row is a list of entries.
"""

from keyroll.errors import BadPlace, BadTimes, NoMoment

LAST_MOMENT = 999
MOST_ENTRIES = 8

# Stands for "ahead of the first entry": as a place, and as what is told then.
NOTHING_YET = -1


def check_moment(moment):
    """Refuse a moment that there isn't."""
    if not 0 <= moment <= LAST_MOMENT:
        raise NoMoment(f"there is no moment {moment}")


def check_place(row, place):
    """Refuse a place at which the row cannot get another entry."""
    if not 0 <= place <= len(row):
        raise BadPlace(f"there is no place {place} in the row")
    if len(row) >= MOST_ENTRIES:
        raise BadPlace(f"the row has {MOST_ENTRIES} entries already")


def soonest(row):
    """Tell for each entry the first moment at which it can follow those ahead."""
    moments = []
    reached = 0
    for entry in row:
        reached = max(reached, entry[1])
        moments.append(reached)
    return moments


def latest(row):
    """Tell for each entry the last moment at which those behind can follow it."""
    moments = []
    limit = LAST_MOMENT
    for entry in reversed(row):
        limit = min(limit, entry[2])
        moments.append(limit)
    return moments[::-1]


def first_stuck(row):
    """Tell the place of the first entry that cannot be begun, None if all can."""
    begun = soonest(row)
    for place, entry in enumerate(row):
        if begun[place] > entry[2]:
            return place
    return None


def row_with(row, place, entry):
    """Tell a new row that has the entry at the place; refuse impossible times."""
    _, early, late = entry
    if early < 0 or late > LAST_MOMENT or late < early:
        raise BadTimes(place)
    longer = row[:place] + [entry] + row[place:]
    stuck = first_stuck(longer)
    if stuck is not None:
        raise BadTimes(stuck)
    return longer


def spans(row):
    """Tell (begin, end) for NOTHING_YET, then for each place.

    At the moments from begin on, ahead of end, it is in force in some world.
    There are none if end is not above begin.
    """
    # The entries up to a place can be begun as soon as can be while those behind
    # it are begun as late as can be. So the two bounds need no look at each other.
    begins = [0] + soonest(row)
    ends = latest(row) + [LAST_MOMENT + 1]
    return list(zip(begins, ends))


def standing(row, moment):
    """Tell the places whose entries are in force at the moment in some world."""
    return [
        place
        for place, (begin, end) in enumerate(spans(row), start=NOTHING_YET)
        if begin <= moment < end
    ]


def moments_by(row, place):
    """Tell the moments of a world in which the place is in force for all its span."""
    return soonest(row)[:place + 1] + latest(row)[place + 1:]


def in_force(row, place):
    """Tell what is there while the place is in force, NOTHING_YET ahead of the first entry."""
    if place == NOTHING_YET:
        return NOTHING_YET
    return row[place][0]


def told(row, moment):
    """Tell, each once, what may be at the moment, NOTHING_YET perhaps among it."""
    found = []
    for place in standing(row, moment):
        what = in_force(row, place)
        if what not in found:
            found.append(what)
    return found
