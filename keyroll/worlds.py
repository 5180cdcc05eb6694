"""Worlds told as proof: one in which a person can open a door, one in which not.

Each row's moments are told by themselves. So what one row may be at a moment
goes with whatever the others may be then, and no two need to be tried together.
"""

from keyroll.rows import NOTHING_YET, check_moment, in_force, moments_by, soonest, spans, standing


def place_had(row, person, plain, moment):
    """Tell (place, when) by which the person may have the key, or a copy, at the moment.

    None, if the person cannot; when is the moment itself, or an earlier one at
    which a plain key may be copied.
    """
    for place, (begin, end) in enumerate(spans(row), start=NOTHING_YET):
        when = min(moment, end - 1)
        if begin <= when and (plain or when == moment) and in_force(row, place) in (person, None):
            return place, when
    return None


def place_opened(fitted, opens, moment):
    """Tell a place by which the lock may be of one of these kinds then, None if by none."""
    for place in standing(fitted, moment):
        if in_force(fitted, place) in opens:
            return place
    return None


def shown(book, person, door, moment):
    """Tell (key, its moments, when it is had, the door's moments) by which the person can.

    None, if the person can open the door at the moment in no world.
    """
    book.check_person(person)
    fitted = book.fitted(door)
    check_moment(moment)
    for name, (opens, plain) in enumerate(book.cuts()):
        row = book.entries(name)
        had = place_had(row, person, plain, moment)
        opened = place_opened(fitted, opens, moment)
        if had is not None and opened is not None:
            place, when = had
            return name, moments_by(row, place), when, moments_by(fitted, opened)
    return None


def moments_without(row, person, moment):
    """Tell moments by which the person does not have the key then, None if by none."""
    for place in standing(row, moment):
        if in_force(row, place) != person:
            return moments_by(row, place)
    return None


def moments_against(book, person, kind, moment):
    """Tell for each key moments by which it does not help against a lock of the kind.

    None stands for those of a key that helps by whatever moments.
    """
    found = []
    for name, (opens, _) in enumerate(book.cuts()):
        row = book.entries(name)
        if kind in opens:
            found.append(moments_without(row, person, moment))
        else:
            found.append(soonest(row))
    return found


def denied(book, person, door, moment):
    """Tell (moments of each key, the door's moments) by which the person cannot.

    None, if the person can open the door at the moment in all worlds.
    """
    book.check_person(person)
    fitted = book.fitted(door)
    check_moment(moment)
    for place in standing(fitted, moment):
        keys = moments_against(book, person, in_force(fitted, place), moment)
        if None not in keys:
            return keys, moments_by(fitted, place)
    return None
