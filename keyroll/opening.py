"""Who could open which door when: surely, maybe, or not."""

from keyroll.rows import soonest
from keyroll.worlds import denied, shown

SURELY = "surely"
MAYBE = "maybe"
NOT = "no"


def could(book, person, door, moment):
    """Tell "surely", "maybe" or "no": whether the person can open the door then."""
    if denied(book, person, door, moment) is None:
        return SURELY
    if shown(book, person, door, moment) is None:
        return NOT
    return MAYBE


def openers(book, door, moment):
    """Tell (those who surely can, those who maybe can), each rising."""
    persons = book.everybody()
    # A book has at least one person, so that a door or moment is refused in any case.
    answers = [could(book, person, door, moment) for person in persons]
    surely = [person for person in persons if answers[person] == SURELY]
    maybe = [person for person in persons if answers[person] == MAYBE]
    return surely, maybe


def first(book, person, door):
    """Tell the first moment at which the person surely or maybe can, None if there is none."""
    book.check_person(person)
    begins = soonest(book.fitted(door))
    for name in range(len(book.cuts())):
        begins += soonest(book.entries(name))
    # What can be done anew can be done since some entry can be in force.
    for moment in sorted(set(begins)):
        if shown(book, person, door, moment) is not None:
            return moment
    return None
