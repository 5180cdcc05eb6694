"""Point [9], and keyroll/worlds.py: worlds in which a person can open a door, or cannot."""

import inspect
import unittest

from every_world import answer, at_moment, book_of, denied_is_right, may_be_begun, shown_is_right, some_books
from keyroll import worlds
from keyroll.errors import NoMoment, NoOne
from keyroll.worlds import denied, shown

ALWAYS = [(1, 0, 0)]


class Checking(unittest.TestCase):
    """Tries what was told against what the point asks of it, whichever world it is."""

    def check_shown(self, keys, door, person, moment, persons=3):
        told = shown(book_of(persons, keys, door), person, 0, moment)
        self.assertIsNotNone(told, (keys, door, person, moment))
        self.assertTrue(shown_is_right(keys, door, person, moment, told), (keys, door, person, moment, told))
        return told

    def check_denied(self, keys, door, person, moment, persons=3):
        told = denied(book_of(persons, keys, door), person, 0, moment)
        self.assertIsNotNone(told, (keys, door, person, moment))
        self.assertTrue(denied_is_right(keys, door, person, moment, told), (keys, door, person, moment, told))
        return told

    def check_none(self, function, keys, door, person, moments, persons=3):
        book = book_of(persons, keys, door)
        for moment in moments:
            self.assertIsNone(function(book, person, 0, moment), (keys, door, person, moment))


class Interface(unittest.TestCase):
    def setUp(self):
        keys = [((1,), True, [(1, 3, 5)]), ((), False, [])]
        self.book = book_of(2, keys, [(1, 0, 0), (1, 4, 6)])

    def test_each_stands_in_its_file_with_the_listed_arguments(self):
        for name in ("shown", "denied"):
            function = getattr(worlds, name)
            self.assertEqual(function.__module__, "keyroll.worlds")
            arguments = list(inspect.signature(function).parameters)
            self.assertEqual(arguments, ["book", "person", "door", "moment"])

    def test_arguments_may_be_given_by_name(self):
        given = {"book": self.book, "person": 1, "door": 0, "moment": 4}
        self.assertEqual(shown(**given), shown(self.book, 1, 0, 4))
        self.assertEqual(denied(**given), denied(self.book, 1, 0, 4))

    def test_the_kinds_of_what_is_told(self):
        told = shown(self.book, 1, 0, 4)
        self.assertIs(type(told), tuple)
        self.assertEqual([type(part) for part in told], [int, list, int, list])
        self.assertEqual([type(at) for at in told[1] + told[3]], [int] * 3)
        told = denied(self.book, 1, 0, 4)
        self.assertIs(type(told), tuple)
        self.assertEqual([type(part) for part in told], [list, list])
        self.assertEqual([type(part) for part in told[0]], [list, list])
        self.assertEqual([type(at) for at in told[0][0] + told[1]], [int] * 3)
        self.assertEqual(told[0][1], [])


class Shown(Checking):
    def test_where_there_is_but_one_world(self):
        keys = [((2,), True, [(1, 0, 0)]), ((1,), False, [(2, 3, 3), (1, 7, 7)])]
        door = [(2, 2, 2), (1, 5, 5)]
        self.assertEqual(self.check_shown(keys, door, 1, 8), (1, [3, 7], 8, [2, 5]))
        self.assertEqual(self.check_shown(keys, door, 2, 6), (1, [3, 7], 6, [2, 5]))
        self.assertEqual(self.check_shown(keys, door, 1, 2), (0, [0], 2, [2, 5]))
        self.check_none(shown, keys, door, 2, (0, 2, 3, 4, 7, 999))

    def test_the_moments_of_the_entries_are_such_as_can_be(self):
        keys = [((1,), False, [(0, 8, 9), (1, 0, 20), (2, 5, 30)])]
        for person, moments in ((0, (8, 10, 19)), (1, (8, 15, 29)), (2, (8, 9, 30, 999))):
            for moment in moments:
                self.check_shown(keys, ALWAYS, person, moment)

    def test_who_has_a_key_that_is_not_plain_has_it_then(self):
        keys = [((1,), False, [(0, 5, 6), (1, 8, 9)])]
        for moment in (5, 6, 7, 8):
            self.assertEqual(self.check_shown(keys, ALWAYS, 0, moment)[2], moment)
        self.check_none(shown, keys, ALWAYS, 0, (0, 4, 9, 999))

    def test_who_had_a_plain_key_may_have_a_copy(self):
        keys = [((1,), True, [(0, 5, 6), (1, 8, 9)])]
        for moment in (5, 8, 9, 10, 999):
            when = self.check_shown(keys, ALWAYS, 0, moment)[2]
            self.assertIn(when, range(5, 9))
            self.assertLessEqual(when, moment)
        self.check_none(shown, keys, ALWAYS, 0, (0, 4))
        self.check_none(shown, keys, ALWAYS, 2, (0, 5, 9, 999))

    def test_the_lock_is_that_of_the_moment_not_of_when_the_key_was_had(self):
        keys = [((1, 2), True, [(0, 0, 0), (1, 10, 10)])]
        door = [(2, 5, 8), (3, 12, 14), (1, 20, 22)]
        for moment in (5, 9, 12, 13, 20, 22):
            self.check_shown(keys, door, 0, moment)
        self.check_none(shown, keys, door, 0, (4, 14, 19))

    def test_a_key_is_not_had_by_an_entry_over_in_the_moment_it_is_begun(self):
        keys = [((1,), True, [(0, 5, 5), (1, 5, 5), (None, 7, 7), (1, 7, 7)])]
        self.check_none(shown, keys, ALWAYS, 0, (4, 5, 7, 999))
        self.check_shown(keys, ALWAYS, 1, 5)

    def test_several_entries_in_the_same_moment(self):
        keys = [((1,), True, [(0, 5, 6), (1, 6, 6), (2, 6, 7)])]
        self.assertEqual(self.check_shown(keys, ALWAYS, 0, 6)[2], 5)
        self.check_shown(keys, ALWAYS, 1, 7)
        self.assertEqual(self.check_shown(keys, ALWAYS, 2, 6)[2], 6)

    def test_one_who_is_not_known_may_be_the_person(self):
        keys = [((1,), False, [(None, 5, 6), (1, 8, 8)])]
        for person in range(8):
            self.check_shown(keys, ALWAYS, person, 5, 8)
        self.check_none(shown, keys, ALWAYS, 0, (4, 8, 9))

    def test_a_key_that_opens_nothing_and_one_that_opens_another_kind(self):
        keys = [((), True, [(0, 0, 0)]), ((0, 2), True, [(0, 0, 0)])]
        self.check_none(shown, keys, ALWAYS, 0, (0, 500, 999))
        keys.append(((1,), True, [(0, 0, 0)]))
        self.assertEqual(self.check_shown(keys, ALWAYS, 0, 0)[0], 2)

    def test_a_book_without_keys_an_empty_row_and_a_door_without_a_lock(self):
        self.check_none(shown, [], ALWAYS, 0, (0, 999))
        self.check_none(shown, [((1,), True, [])], ALWAYS, 0, (0, 999))
        self.check_none(shown, [(tuple(range(10)), True, [(0, 0, 0)])], [], 0, (0, 999))

    def test_full_rows(self):
        keys = [((1,), False, [(at % 3, 10 * at, 10 * at + 15) for at in range(8)])]
        door = [(at % 2, 10 * at, 10 * at + 15) for at in range(8)]
        for moment in (10, 24, 25, 30, 44, 70, 85, 999):
            told = self.check_shown(keys, door, 1, moment)
            self.assertEqual([len(told[1]), len(told[3])], [8, 8])

    def test_the_first_and_the_last_moment(self):
        keys = [((1,), True, [(0, 0, 999), (1, 0, 999)])]
        for person in (0, 1):
            for moment in (0, 998, 999):
                self.check_shown(keys, [(1, 0, 999)], person, moment)


class Denied(Checking):
    def test_where_there_is_but_one_world(self):
        keys = [((1,), True, [(0, 3, 3), (1, 6, 6)]), ((2,), False, []), ((), True, [(0, 4, 4)])]
        self.assertEqual(self.check_denied(keys, ALWAYS, 0, 6), ([[3, 6], [], [4]], [0]))
        self.assertEqual(self.check_denied(keys, ALWAYS, 0, 2), ([[3, 6], [], [4]], [0]))
        self.assertEqual(self.check_denied(keys, ALWAYS, 2, 4), ([[3, 6], [], [4]], [0]))
        self.check_none(denied, keys, ALWAYS, 0, (3, 4, 5))
        self.check_none(denied, keys, ALWAYS, 1, (6, 999))

    def test_the_moments_of_the_entries_are_such_as_can_be(self):
        keys = [((1,), True, [(0, 8, 9), (1, 0, 20), (0, 5, 30)])]
        for moment in (0, 7, 8, 9, 19, 20, 29):
            self.check_denied(keys, ALWAYS, 0, moment)
        self.check_none(denied, keys, ALWAYS, 0, (30, 999))

    def test_one_who_is_not_known_is_somebody_else(self):
        keys = [((1,), True, [(None, 0, 0), (1, 8, 9)])]
        for moment in (0, 7, 8):
            self.check_denied(keys, ALWAYS, 1, moment)
        self.check_none(denied, keys, ALWAYS, 1, (9, 999))
        self.check_denied(keys, ALWAYS, 0, 0, 2)

    def test_without_any_copy(self):
        keys = [((1,), True, [(0, 0, 0), (1, 8, 8)])]
        for moment in (8, 9, 999):
            self.check_denied(keys, ALWAYS, 0, moment)
        self.check_none(denied, keys, ALWAYS, 0, (0, 7))

    def test_by_the_lock(self):
        keys = [((1,), False, [(0, 0, 0)])]
        door = [(1, 5, 6), (2, 8, 9)]
        for moment in (0, 5, 8, 9, 999):
            self.check_denied(keys, door, 0, moment)
        self.check_none(denied, keys, door, 0, (6, 7))

    def test_of_keys_for_several_locks_each_that_opens_is_kept_away(self):
        keys = [
            ((1,), False, [(0, 0, 0)]),
            ((2,), False, [(0, 0, 0), (1, 5, 9)]),
            ((1, 2), False, [(1, 0, 0), (0, 3, 7)]),
        ]
        door = [(1, 0, 0), (2, 2, 6)]
        for moment in (5, 6):
            self.check_denied(keys, door, 0, moment)
        self.check_none(denied, keys, door, 0, (0, 1, 2, 4, 7, 9, 999))

    def test_a_key_that_surely_is_there_but_opens_nothing(self):
        keys = [((), False, [(0, 0, 0)]), ((3,), False, [(0, 0, 0)])]
        for moment in (0, 999):
            self.check_denied(keys, ALWAYS, 0, moment)

    def test_a_book_without_keys_an_empty_row_and_a_door_without_a_lock(self):
        self.assertEqual(self.check_denied([], ALWAYS, 0, 0), ([], [0]))
        self.assertEqual(self.check_denied([], [], 0, 999), ([], []))
        self.assertEqual(self.check_denied([((1,), True, [])], ALWAYS, 0, 0), ([[]], [0]))
        keys = [(tuple(range(10)), True, [(0, 0, 0)])]
        self.assertEqual(self.check_denied(keys, [], 0, 999), ([[0]], []))

    def test_full_rows(self):
        keys = [((1,), False, [(at % 3, 10 * at, 10 * at + 15) for at in range(8)])] * 6
        door = [(1, 10 * at, 10 * at + 15) for at in range(8)]
        for moment in (0, 10, 24, 25, 30, 44, 70, 84):
            begun, fits = self.check_denied(keys, door, 1, moment)
            self.assertEqual([len(moments) for moments in begun] + [len(fits)], [8] * 7)
        self.check_none(denied, keys, door, 1, (85, 999))

    def test_the_first_and_the_last_moment(self):
        keys = [((1,), True, [(0, 0, 999), (1, 0, 999)])]
        for moment in (0, 998, 999):
            self.check_denied(keys, ALWAYS, 0, moment)
        self.check_denied(keys, ALWAYS, 1, 998)
        self.check_none(denied, keys, ALWAYS, 1, (999,))


class Refusals(unittest.TestCase):
    """Which refusal comes first: the person's, the door's, the moment's."""

    def setUp(self):
        full = book_of(3, [((1,), True, [(0, 0, 0)])], ALWAYS, [])
        self.tried = [(function, book) for function in (shown, denied) for book in (full, book_of(3, (), [], []))]

    def test_persons_that_there_are_not(self):
        for function, book in self.tried:
            for person in (-2, -1, 3, 4, 8):
                self.assertRaises(NoOne, function, book, person, 0, 0)

    def test_doors_that_there_are_not(self):
        for function, book in self.tried:
            for door in (-2, -1, 2, 3, 4):
                self.assertRaises(NoOne, function, book, 0, door, 0)

    def test_moments_that_there_are_not(self):
        for function, book in self.tried:
            for moment in (-2, -1, 1000, 1001):
                self.assertRaises(NoMoment, function, book, 0, 0, moment)

    def test_the_person_and_the_door_ahead_of_the_moment(self):
        for function, book in self.tried:
            for moment in (-1, 1000):
                self.assertRaises(NoOne, function, book, 3, 0, moment)
                self.assertRaises(NoOne, function, book, -1, 1, moment)
                self.assertRaises(NoOne, function, book, 0, 2, moment)
                self.assertRaises(NoOne, function, book, 0, -1, moment)


class TheLookItself(unittest.TestCase):
    """What the checks of these tests take for right and for wrong."""

    def test_moments_of_a_row(self):
        row = [(0, 1, 3), (1, 2, 5)]
        for moments in ([1, 2], [3, 3], [2, 5]):
            self.assertTrue(may_be_begun(row, moments))
        for moments in ([], [1], [1, 2, 3], [0, 2], [4, 5], [3, 2], [1, 6]):
            self.assertFalse(may_be_begun(row, moments))
        self.assertEqual([at_moment(row, [2, 4], at) for at in (1, 2, 3, 4)], ["nothing", 0, 0, 1])

    def test_what_shows_and_what_does_not(self):
        keys = [((1,), False, [(0, 1, 3), (1, 5, 5)]), ((1,), True, [(0, 1, 3), (1, 5, 5)])]
        self.assertTrue(shown_is_right(keys, ALWAYS, 0, 4, (0, [2, 5], 4, [0])))
        self.assertFalse(shown_is_right(keys, ALWAYS, 0, 4, (0, [2, 5], 3, [0])))
        self.assertTrue(shown_is_right(keys, ALWAYS, 0, 4, (1, [2, 5], 3, [0])))
        self.assertFalse(shown_is_right(keys, ALWAYS, 0, 4, (1, [2, 5], 1, [0])))
        self.assertFalse(shown_is_right(keys, ALWAYS, 0, 2, (1, [2, 5], 3, [0])))
        self.assertFalse(shown_is_right(keys, [(2, 0, 0)], 0, 4, (1, [2, 5], 3, [0])))

    def test_what_denies_and_what_does_not(self):
        keys = [((1,), False, [(0, 1, 3)]), ((1,), True, [(None, 1, 3)])]
        self.assertTrue(denied_is_right(keys, ALWAYS, 0, 2, ([[3], [1]], [0])))
        self.assertFalse(denied_is_right(keys, ALWAYS, 0, 2, ([[2], [1]], [0])))
        self.assertFalse(denied_is_right(keys, ALWAYS, 0, 2, ([[3]], [0])))
        self.assertFalse(denied_is_right(keys, ALWAYS, 0, 2, ([[4], [1]], [0])))


class EveryWorld(Checking):
    """Small books, against a look into each of their worlds."""

    def test_shown_and_denied(self):
        asked = 0
        for persons, keys, door, moments in some_books(3, 600):
            for person in range(persons):
                for moment in moments:
                    self.check_both(persons, keys, door, person, moment)
                    asked += 1
        self.assertGreater(asked, 1000)

    def check_both(self, persons, keys, door, person, moment):
        word = answer(keys, door, person, moment)
        if word == "no":
            self.check_none(shown, keys, door, person, (moment,), persons)
        else:
            self.check_shown(keys, door, person, moment, persons)
        if word == "surely":
            self.check_none(denied, keys, door, person, (moment,), persons)
        else:
            self.check_denied(keys, door, person, moment, persons)
