"""Points [5] and [6]: worlds, and who or what may be there in them."""

import unittest
from itertools import product

from every_world import NOTHING, SOMEBODY_ELSE, at_moment, moments_of
from keyroll.books import Book


def seen(entries, moment):
    """What is there at the moment, in all worlds taken together."""
    found = []
    for moments in moments_of(entries):
        what = at_moment(entries, moments, moment)
        if what not in found:
            found.append(what)
    return found


def all_holders(entries, persons, moment):
    """What holders must tell, by looking into each world for itself."""
    found = []
    for what in seen(entries, moment):
        found += [*range(persons), SOMEBODY_ELSE] if what is None else [what]
    with_them = sorted(set(found) - {SOMEBODY_ELSE, NOTHING})
    return (with_them[0] if set(found) == set(with_them[:1]) else None), with_them


def all_locks(entries, moment):
    """What locks must tell, by looking into each world for itself."""
    return sorted(-1 if what == NOTHING else what for what in seen(entries, moment))


def book_of(persons, key=(), door=()):
    book = Book(persons, 1)
    book.cut((1,), True)
    for place, entry in enumerate(key):
        book.hand(0, place, *entry)
    for place, entry in enumerate(door):
        book.fit(0, place, *entry)
    return book


class Holders(unittest.TestCase):
    def check(self, persons, entries, answers):
        book = book_of(persons, key=entries)
        for moment, answer in answers.items():
            self.assertEqual(book.holders(0, moment), answer, moment)

    def test_a_key_that_was_never_handed_is_with_nobody(self):
        self.check(3, [], {0: (None, []), 500: (None, []), 999: (None, [])})

    def test_ahead_of_within_and_after_the_moments_of_an_entry(self):
        self.check(3, [(1, 10, 20)], {
            0: (None, []), 9: (None, []), 10: (None, [1]), 19: (None, [1]),
            20: (1, [1]), 21: (1, [1]), 999: (1, [1]),
        })

    def test_the_first_and_the_last_moment(self):
        self.check(1, [(0, 0, 0)], {0: (0, [0]), 999: (0, [0])})
        self.check(1, [(0, 999, 999)], {0: (None, []), 998: (None, []), 999: (0, [0])})
        self.check(2, [(0, 0, 999), (1, 0, 999)], {
            0: (None, [0, 1]), 998: (None, [0, 1]), 999: (1, [1]),
        })

    def test_from_one_person_to_another(self):
        self.check(3, [(2, 10, 10), (0, 20, 30)], {
            9: (None, []), 10: (2, [2]), 19: (2, [2]), 20: (None, [0, 2]),
            29: (None, [0, 2]), 30: (0, [0]),
        })

    def test_by_both_of_two_entries_the_same_person(self):
        self.check(3, [(2, 10, 10), (2, 20, 30)], {19: (2, [2]), 25: (2, [2]), 30: (2, [2])})

    def test_an_entry_begun_in_the_same_moment_as_the_next_is_never_in_force(self):
        self.check(3, [(0, 5, 5), (1, 5, 5)], {4: (None, []), 5: (1, [1]), 6: (1, [1])})
        self.check(3, [(0, 5, 7), (1, 5, 5)], {4: (None, []), 5: (1, [1]), 7: (1, [1])})

    def test_an_entry_waits_for_those_ahead(self):
        self.check(3, [(0, 8, 9), (1, 0, 20)], {
            7: (None, []), 8: (None, [0, 1]), 9: (None, [0, 1]), 19: (None, [0, 1]), 20: (1, [1]),
        })

    def test_an_entry_is_over_in_time_for_those_behind(self):
        self.check(3, [(0, 0, 20), (1, 3, 6)], {
            0: (None, [0]), 2: (None, [0]), 3: (None, [0, 1]), 5: (None, [0, 1]), 6: (1, [1]),
        })

    def test_one_who_is_not_known_may_be_anybody(self):
        self.check(8, [(None, 4, 4)], {3: (None, []), 4: (None, list(range(8)))})
        self.check(1, [(None, 4, 4)], {3: (None, []), 4: (None, [0])})

    def test_one_who_is_not_known_beside_one_who_is(self):
        self.check(3, [(1, 0, 0), (None, 4, 6), (2, 8, 8)], {
            3: (1, [1]), 4: (None, [0, 1, 2]), 6: (None, [0, 1, 2]), 7: (None, [0, 1, 2]), 8: (2, [2]),
        })

    def test_each_key_is_told_of_by_itself(self):
        book = book_of(2, key=[(1, 5, 5)])
        book.cut((), False)
        book.hand(1, 0, 0, 0, 5)
        self.assertEqual(book.holders(0, 4), (None, []))
        self.assertEqual(book.holders(1, 4), (None, [0]))
        self.assertEqual(book.holders(0, 5), (1, [1]))
        self.assertEqual(book.holders(1, 5), (0, [0]))

    def test_a_book_is_told_of_as_it_stands_then(self):
        book = book_of(2, key=[(1, 0, 9)])
        self.assertEqual(book.holders(0, 5), (None, [1]))
        book.hand(0, 0, 0, 3, 9)
        self.assertEqual(book.holders(0, 2), (None, []))
        self.assertEqual(book.holders(0, 5), (None, [0, 1]))


class Locks(unittest.TestCase):
    def check(self, entries, answers):
        book = book_of(1, door=entries)
        for moment, answer in answers.items():
            self.assertEqual(book.locks(0, moment), answer, moment)

    def test_a_door_that_was_never_fitted_has_no_lock(self):
        self.check([], {0: [-1], 500: [-1], 999: [-1]})

    def test_ahead_of_within_and_after_the_moments_of_an_entry(self):
        self.check([(0, 10, 20)], {0: [-1], 9: [-1], 10: [-1, 0], 19: [-1, 0], 20: [0], 999: [0]})

    def test_the_first_and_the_last_moment(self):
        self.check([(9, 0, 0)], {0: [9], 999: [9]})
        self.check([(9, 999, 999)], {0: [-1], 998: [-1], 999: [9]})

    def test_kinds_are_told_once_and_rising(self):
        self.check([(7, 0, 5), (3, 0, 5), (7, 0, 5), (0, 0, 5)], {
            0: [-1, 0, 3, 7], 4: [-1, 0, 3, 7], 5: [0],
        })

    def test_an_entry_begun_in_the_same_moment_as_the_next_is_never_in_force(self):
        self.check([(4, 5, 5), (2, 5, 5)], {4: [-1], 5: [2]})

    def test_each_door_is_told_of_by_itself(self):
        book = Book(1, 4)
        book.fit(3, 0, 6, 2, 2)
        self.assertEqual([book.locks(door, 2) for door in range(4)], [[-1], [-1], [-1], [6]])


class EveryWorld(unittest.TestCase):
    """Short rows with narrow moments, against a look into each of their worlds."""

    def check_rows(self, windows, persons, kinds):
        for spans in product(windows, repeat=len(persons)):
            key = [(person, *span) for person, span in zip(persons, spans)]
            door = [(kind, *span) for kind, span in zip(kinds, spans)]
            if moments_of(key):
                self.check_row(key, door)

    def check_row(self, key, door):
        book = book_of(3, key, door)
        for moment in range(5):
            self.assertEqual(book.holders(0, moment), all_holders(key, 3, moment), (key, moment))
            self.assertEqual(book.locks(0, moment), all_locks(door, moment), (door, moment))

    def test_rows_of_up_to_three_entries(self):
        windows = [(early, late) for early in range(4) for late in range(early, 4)]
        self.check_rows(windows, (), ())
        for person in (2, None):
            self.check_rows(windows, (person,), (5,))
        for persons in product((0, 1, None), repeat=2):
            self.check_rows(windows, persons, (8, 0))
        for persons in ((2, 0, 1), (0, 1, 0), (1, 1, 1), (0, None, 1), (None, 2, 2), (1, 0, None)):
            self.check_rows(windows, persons, (3, 9, 3))

    def test_rows_of_four_entries(self):
        windows = [(early, late) for early in range(3) for late in range(early, 3)]
        for persons in ((0, 1, 2, 0), (1, None, 1, 0)):
            self.check_rows(windows, persons, (2, 1, 2, 0))
