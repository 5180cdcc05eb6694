"""Points [3] and [4]: the rows of entries, and what cannot be put into them."""

import unittest
from itertools import product

from keyroll.books import Book
from keyroll.errors import BadKey, BadPlace, BadTimes, KeyrollError, NoMoment, NoOne


class KeyRow:
    """A key's row of a new book, to be tried as a door's row is."""

    def __init__(self):
        self.book = Book(8, 1)
        self.name = self.book.cut((1,), True)

    def put(self, place, what, early, late):
        self.book.hand(self.name, place, what, early, late)

    def told(self):
        return self.book.entries(self.name)


class DoorRow:
    """A door's row of a new book."""

    def __init__(self):
        self.book = Book(1, 4)

    def put(self, place, what, early, late):
        self.book.fit(3, place, what, early, late)

    def told(self):
        return self.book.fitted(3)


def row_of(make, entries):
    row = make()
    for place, entry in enumerate(entries):
        row.put(place, *entry)
    return row


def can_be_begun(entries):
    """Whether some moments, one for each entry, keep to [3] and [4]."""
    spans = [range(early, late + 1) for _, early, late in entries]
    return any(list(moments) == sorted(moments) for moments in product(*spans))


class Rows:
    """What holds of the rows of keys and of doors alike."""

    def place_refused(self, row, *entry):
        before = row.told()
        with self.assertRaises(BadTimes) as caught:
            row.put(*entry)
        self.assertEqual(row.told(), before)
        return caught.exception.place

    def test_a_row_is_empty_at_first(self):
        self.assertEqual(self.make().told(), [])

    def test_an_entry_is_told_as_it_was_put(self):
        row = row_of(self.make, [(5, 10, 20)])
        self.assertEqual(row.told(), [(5, 10, 20)])

    def test_places_at_both_ends_and_between(self):
        row = self.make()
        row.put(0, 1, 0, 9)
        row.put(0, 2, 0, 9)
        self.assertEqual(row.told(), [(2, 0, 9), (1, 0, 9)])
        row.put(2, 3, 0, 9)
        self.assertEqual(row.told(), [(2, 0, 9), (1, 0, 9), (3, 0, 9)])
        row.put(1, 4, 0, 9)
        self.assertEqual(row.told(), [(2, 0, 9), (4, 0, 9), (1, 0, 9), (3, 0, 9)])

    def test_places_that_there_are_not(self):
        row = self.make()
        for length in range(3):
            for place in (-2, -1, length + 1, length + 2):
                self.assertRaises(BadPlace, row.put, place, 0, 0, 9)
            self.assertEqual(len(row.told()), length)
            row.put(length, 0, 0, 9)

    def test_the_eighth_entry_and_the_ninth(self):
        row = row_of(self.make, [(0, 0, 999)] * 7)
        row.put(7, 1, 0, 999)
        full = [(0, 0, 999)] * 7 + [(1, 0, 999)]
        self.assertEqual(row.told(), full)
        for place in range(-1, 10):
            self.assertRaises(BadPlace, row.put, place, 0, 0, 999)
        self.assertEqual(row.told(), full)

    def test_the_first_and_the_last_moment(self):
        entries = [(1, 0, 0), (2, 0, 999), (3, 999, 999)]
        self.assertEqual(row_of(self.make, entries).told(), entries)

    def test_times_that_are_none(self):
        windows = [(-1, 5), (-1, 1000), (0, 1000), (999, 1000), (1000, 1000), (5, 4), (0, -1), (1000, 999)]
        row = row_of(self.make, [(1, 0, 999)] * 2)
        for early, late in windows:
            for place in range(3):
                self.assertEqual(self.place_refused(row, place, 1, early, late), place)

    def test_entries_may_be_begun_in_the_same_moment(self):
        entries = [(1, 7, 7), (2, 7, 7), (3, 0, 7), (4, 7, 9)]
        self.assertEqual(row_of(self.make, entries).told(), entries)

    def test_an_entry_that_would_come_too_late_for_those_behind(self):
        row = row_of(self.make, [(1, 0, 5), (2, 3, 6)])
        self.assertEqual(self.place_refused(row, 0, 3, 6, 9), 1)
        self.assertEqual(self.place_refused(row, 1, 3, 7, 9), 2)
        row.put(1, 3, 6, 9)
        self.assertEqual(row.told(), [(1, 0, 5), (3, 6, 9), (2, 3, 6)])

    def test_an_entry_that_would_come_too_soon_for_those_ahead(self):
        row = row_of(self.make, [(1, 0, 5), (2, 3, 6)])
        self.assertEqual(self.place_refused(row, 2, 3, 0, 2), 2)
        self.assertEqual(self.place_refused(row, 1, 3, 0, -1), 1)
        row.put(1, 3, 0, 0)
        self.assertEqual(row.told(), [(1, 0, 5), (3, 0, 0), (2, 3, 6)])

    def test_the_place_is_that_of_the_first_that_cannot_be_begun(self):
        row = row_of(self.make, [(1, 0, 9), (2, 0, 4), (3, 0, 2)])
        self.assertEqual(self.place_refused(row, 0, 4, 3, 9), 3)
        self.assertEqual(self.place_refused(row, 0, 4, 5, 9), 2)
        self.assertEqual(self.place_refused(row, 1, 4, 5, 9), 2)
        self.assertEqual(self.place_refused(row, 3, 4, 5, 4), 3)

    def test_times_far_ahead_in_the_row_hold_back_what_comes_behind(self):
        row = row_of(self.make, [(1, 50, 60), (2, 0, 90), (3, 10, 70)])
        self.assertEqual(self.place_refused(row, 3, 4, 0, 49), 3)
        row.put(3, 4, 0, 50)

    def test_every_row_of_up_to_three_entries_against_all_worlds(self):
        windows = [(1, early, late) for early in range(4) for late in range(early, 4)]
        for first, second, third in product(windows, repeat=3):
            if can_be_begun([first, second]):
                for place in range(3):
                    self.try_put([first, second], place, third)

    def try_put(self, entries, place, entry):
        row = row_of(self.make, entries)
        longer = entries[:place] + [entry] + entries[place:]
        stuck = [at for at in range(3) if not can_be_begun(longer[:at + 1])]
        if stuck:
            self.assertEqual(self.place_refused(row, place, *entry), stuck[0])
        else:
            row.put(place, *entry)
            self.assertEqual(row.told(), longer)


class KeyRows(Rows, unittest.TestCase):
    make = KeyRow


class DoorRows(Rows, unittest.TestCase):
    make = DoorRow


class PersonsAndKinds(unittest.TestCase):
    def test_every_person_and_one_who_is_not_known(self):
        entries = [(person, 0, 9) for person in (0, 1, 2, 3, 4, 6, 7, None)]
        self.assertEqual(row_of(KeyRow, entries).told(), entries)

    def test_persons_that_there_are_not(self):
        row = KeyRow()
        for person in (-2, -1, 8, 9):
            self.assertRaises(NoOne, row.put, 0, person, 0, 9)
        self.assertEqual(row.told(), [])

    def test_kinds_from_0_to_9(self):
        for kind in range(10):
            self.assertEqual(row_of(DoorRow, [(kind, 0, 9)]).told(), [(kind, 0, 9)])

    def test_kinds_that_there_are_not(self):
        row = DoorRow()
        for kind in (-2, -1, 10, 11):
            with self.assertRaises(BadKey) as caught:
                row.put(0, kind, 0, 9)
            self.assertEqual(caught.exception.word, "kind")
        self.assertEqual(row.told(), [])

    def test_each_key_has_a_row_of_its_own(self):
        book = Book(2, 1)
        for _ in range(3):
            book.cut((1,), True)
        book.hand(1, 0, 0, 5, 6)
        book.hand(2, 0, None, 1, 2)
        self.assertEqual([book.entries(name) for name in range(3)], [[], [(0, 5, 6)], [(None, 1, 2)]])


class Refusals(unittest.TestCase):
    """Which of several refusals comes first, and that nothing is changed by any."""

    def setUp(self):
        self.book = Book(2, 2)
        self.book.cut((1, 2), True)
        self.book.cut((), False)
        for place in range(8):
            self.book.hand(1, place, place % 2, 0, 999)
            self.book.fit(1, place, place, 0, 999)
        self.book.hand(0, 0, 1, 3, 6)
        self.book.fit(0, 0, 9, 3, 6)

    def state(self):
        book = self.book
        return [
            [book.entries(name) for name in range(2)],
            [book.fitted(door) for door in range(2)],
            [book.holders(name, moment) for name in range(2) for moment in (0, 2, 3, 5, 6, 999)],
            [book.locks(door, moment) for door in range(2) for moment in (0, 2, 3, 5, 6, 999)],
        ]

    def refused(self, kind, method, *given):
        before = self.state()
        with self.assertRaises(KeyrollError, msg=given) as caught:
            getattr(self.book, method)(*given)
        self.assertIs(type(caught.exception), kind, (method, given))
        self.assertEqual(self.state(), before, (method, given))
        return caught.exception

    def test_keys_that_there_are_not(self):
        for name in (-2, -1, 2, 6, 7):
            self.refused(NoOne, "hand", name, 0, 0, 0, 9)
            self.refused(NoOne, "entries", name)
            self.refused(NoOne, "holders", name, 0)

    def test_doors_that_there_are_not(self):
        for door in (-2, -1, 2, 4, 5):
            self.refused(NoOne, "fit", door, 0, 0, 0, 9)
            self.refused(NoOne, "fitted", door)
            self.refused(NoOne, "locks", door, 0)

    def test_moments_that_there_are_not(self):
        for moment in (-2, -1, 1000, 1001):
            self.refused(NoMoment, "holders", 0, moment)
            self.refused(NoMoment, "locks", 0, moment)

    def test_the_key_or_door_ahead_of_all_else(self):
        self.refused(NoOne, "hand", 2, 5, 2, 9, 0)
        self.refused(NoOne, "hand", -1, 1, 0, 9, 0)
        self.refused(NoOne, "fit", 2, 5, 10, 9, 0)
        self.refused(NoOne, "fit", -1, 0, 10, 0, 9)
        self.refused(NoOne, "holders", 2, 1000)
        self.refused(NoOne, "locks", -1, -1)

    def test_the_place_ahead_of_the_person_or_kind(self):
        self.refused(BadPlace, "hand", 0, 2, 2, 0, 9)
        self.refused(BadPlace, "hand", 0, -1, 2, 9, 0)
        self.refused(BadPlace, "hand", 1, 8, 2, 0, 9)
        self.refused(BadPlace, "fit", 0, 2, 10, 0, 9)
        self.refused(BadPlace, "fit", 0, -1, 10, 9, 0)
        self.refused(BadPlace, "fit", 1, 0, 10, 0, 9)

    def test_the_place_ahead_of_the_times(self):
        for place in (-1, 2):
            self.refused(BadPlace, "hand", 0, place, None, 9, 0)
            self.refused(BadPlace, "fit", 0, place, 0, -1, 9)
        for place in (0, 8):
            self.refused(BadPlace, "hand", 1, place, 0, 0, 1000)
            self.refused(BadPlace, "fit", 1, place, 0, 9, 0)

    def test_the_person_or_kind_ahead_of_the_times(self):
        self.refused(NoOne, "hand", 0, 1, 2, 9, 0)
        self.refused(NoOne, "hand", 0, 1, -1, 0, 1)
        word = self.refused(BadKey, "fit", 0, 1, 10, 9, 0).word
        self.assertEqual(word, "kind")
        word = self.refused(BadKey, "fit", 0, 1, -1, 0, 1).word
        self.assertEqual(word, "kind")

    def test_the_entry_s_own_times_ahead_of_those_of_the_row(self):
        self.assertEqual(self.refused(BadTimes, "hand", 0, 0, 0, 1000, 1001).place, 0)
        self.assertEqual(self.refused(BadTimes, "hand", 0, 0, 0, 7, 1000).place, 0)
        self.assertEqual(self.refused(BadTimes, "hand", 0, 0, 0, 7, 9).place, 1)
        self.assertEqual(self.refused(BadTimes, "fit", 0, 0, 0, 7, 6).place, 0)
        self.assertEqual(self.refused(BadTimes, "fit", 0, 0, 0, 7, 7).place, 1)

    def test_refused_keys_change_nothing(self):
        for opens in ((10,), (1, 1), (3, 2)):
            self.assertEqual(self.refused(BadKey, "cut", opens, True).word, "opens")
        self.assertEqual(self.book.cut((), True), 2)

    def test_a_row_goes_on_after_refusals_as_if_there_had_been_none(self):
        self.refused(BadTimes, "hand", 0, 0, 0, 7, 9)
        self.refused(BadTimes, "fit", 0, 1, 0, 0, 2)
        self.book.hand(0, 1, 0, 6, 6)
        self.book.fit(0, 0, 4, 0, 2)
        self.assertEqual(self.book.entries(0), [(1, 3, 6), (0, 6, 6)])
        self.assertEqual(self.book.fitted(0), [(4, 0, 2), (9, 3, 6)])
