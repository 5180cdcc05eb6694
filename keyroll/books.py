"""The book: which keys there are, who got them when, and which locks doors got."""

from keyroll.errors import BadBook, BadKey, NoOne
from keyroll.rows import NOTHING_YET, check_moment, check_place, row_with, told

MOST_PERSONS = 8
MOST_DOORS = 4
MOST_KEYS = 6
LAST_KIND = 9


def are_kinds(opens):
    """Tell whether these are unlike kinds of locks, rising."""
    ahead = -1
    for kind in opens:
        if not ahead < kind <= LAST_KIND:
            return False
        ahead = kind
    return True


class Book:
    """Keys with their holders, and doors with their locks, as far as is known."""

    def __init__(self, persons, doors):
        if not 1 <= persons <= MOST_PERSONS:
            raise BadBook(f"a book has 1 to {MOST_PERSONS} persons, not {persons}")
        if not 1 <= doors <= MOST_DOORS:
            raise BadBook(f"a book has 1 to {MOST_DOORS} doors, not {doors}")
        self._persons = persons
        self._cuts = []
        self._key_rows = []
        self._door_rows = [[] for _ in range(doors)]

    def cut(self, opens, plain):
        """Add a key that opens these kinds of locks, and tell its number."""
        if not are_kinds(opens):
            raise BadKey("opens")
        if len(self._cuts) >= MOST_KEYS:
            raise BadKey("many")
        self._cuts.append((tuple(opens), plain))
        self._key_rows.append([])
        return len(self._cuts) - 1

    def hand(self, name, place, person, early, late):
        """Write that the key came to the person (None: not known) at some moment."""
        row = self._key_row(name)
        check_place(row, place)
        if person is not None:
            self.check_person(person)
        self._key_rows[name] = row_with(row, place, (person, early, late))

    def fit(self, door, place, kind, early, late):
        """Write that the door got a lock of the kind at some moment."""
        row = self._door_row(door)
        check_place(row, place)
        if not 0 <= kind <= LAST_KIND:
            raise BadKey("kind")
        self._door_rows[door] = row_with(row, place, (kind, early, late))

    def entries(self, name):
        """Tell the key's row: (person, early, late) for each entry."""
        return list(self._key_row(name))

    def fitted(self, door):
        """Tell the door's row: (kind, early, late) for each entry."""
        return list(self._door_row(door))

    def holders(self, name, moment):
        """Tell who surely has the key then, else None, and all who may have it."""
        row = self._key_row(name)
        check_moment(moment)
        found = told(row, moment)
        if None in found:
            return None, self.everybody()
        persons = sorted([person for person in found if person != NOTHING_YET])
        sure = persons[0] if persons and len(found) == 1 else None
        return sure, persons

    def locks(self, door, moment):
        """Tell the kinds that the door's lock may have then, -1 for no lock."""
        row = self._door_row(door)
        check_moment(moment)
        return sorted(told(row, moment))

    def everybody(self):
        """Tell all persons."""
        return list(range(self._persons))

    def cuts(self):
        """Tell (opens, plain) for each key."""
        return list(self._cuts)

    def check_person(self, person):
        """Refuse a person that there isn't."""
        if not 0 <= person < self._persons:
            raise NoOne(f"there is no person {person}")

    def _key_row(self, name):
        if not 0 <= name < len(self._key_rows):
            raise NoOne(f"there is no key {name}")
        return self._key_rows[name]

    def _door_row(self, door):
        if not 0 <= door < len(self._door_rows):
            raise NoOne(f"there is no door {door}")
        return self._door_rows[door]
