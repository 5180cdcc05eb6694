"""Points [7] and [8], and keyroll/opening.py: who can open which door when."""

import inspect
import unittest

from every_world import answer, book_of, some_books
from keyroll import opening
from keyroll.errors import BadTimes, NoMoment, NoOne
from keyroll.opening import could, first, openers

ALWAYS = [(1, 0, 0)]


def answers(keys, door, person, moments, persons=3):
    book = book_of(persons, keys, door)
    return [could(book, person, 0, moment) for moment in moments]


class Interface(unittest.TestCase):
    def test_each_stands_in_its_file_with_the_listed_arguments(self):
        listed = {
            "could": ["book", "person", "door", "moment"],
            "openers": ["book", "door", "moment"],
            "first": ["book", "person", "door"],
        }
        for name, arguments in listed.items():
            function = getattr(opening, name)
            self.assertEqual(function.__module__, "keyroll.opening")
            self.assertEqual(list(inspect.signature(function).parameters), arguments)

    def test_arguments_may_be_given_by_name(self):
        book = book_of(2, [((1,), False, [(1, 3, 3)])], ALWAYS)
        self.assertEqual(could(book=book, person=1, door=0, moment=3), "surely")
        self.assertEqual(openers(book=book, door=0, moment=3), ([1], []))
        self.assertEqual(first(book=book, person=1, door=0), 3)

    def test_the_kinds_of_what_is_told(self):
        book = book_of(2, [((1,), False, [(1, 3, 3)])], ALWAYS)
        self.assertIs(type(could(book, 0, 0, 0)), str)
        told = openers(book, 0, 3)
        self.assertIs(type(told), tuple)
        self.assertEqual([type(given) for given in told], [list, list])
        self.assertIs(type(first(book, 1, 0)), int)
        self.assertIsNone(first(book, 0, 0))


class WithTheKey(unittest.TestCase):
    """Keys that aren't plain: whoever has the key then, and nobody else."""

    def test_ahead_of_within_and_after_the_moments_of_an_entry(self):
        keys = [((1,), False, [(2, 10, 20)])]
        told = answers(keys, ALWAYS, 2, (0, 9, 10, 19, 20, 999))
        self.assertEqual(told, ["no", "no", "maybe", "maybe", "surely", "surely"])
        self.assertEqual(answers(keys, ALWAYS, 1, (9, 15, 20, 999)), ["no"] * 4)

    def test_the_first_and_the_last_moment(self):
        self.assertEqual(answers([((1,), False, [(0, 0, 0)])], ALWAYS, 0, (0, 999)), ["surely"] * 2)
        keys = [((1,), False, [(0, 999, 999)])]
        self.assertEqual(answers(keys, ALWAYS, 0, (0, 998, 999)), ["no", "no", "surely"])
        keys = [((1,), False, [(0, 0, 999), (1, 0, 999)])]
        self.assertEqual(answers(keys, ALWAYS, 0, (0, 998, 999)), ["maybe", "maybe", "no"])
        self.assertEqual(answers(keys, ALWAYS, 1, (0, 998, 999)), ["maybe", "maybe", "surely"])

    def test_once_given_away_it_opens_for_the_next_one_alone(self):
        keys = [((1,), False, [(0, 5, 5), (1, 8, 9)])]
        self.assertEqual(answers(keys, ALWAYS, 0, (4, 5, 7, 8, 9)), ["no", "surely", "surely", "maybe", "no"])
        self.assertEqual(answers(keys, ALWAYS, 1, (4, 5, 7, 8, 9)), ["no", "no", "no", "maybe", "surely"])

    def test_windows_that_overlap(self):
        keys = [((1,), False, [(0, 5, 15), (1, 10, 20)])]
        told = answers(keys, ALWAYS, 0, (4, 5, 9, 10, 14, 15, 19, 20))
        self.assertEqual(told, ["no"] + ["maybe"] * 6 + ["no"])
        told = answers(keys, ALWAYS, 1, (4, 5, 9, 10, 14, 15, 19, 20))
        self.assertEqual(told, ["no"] * 3 + ["maybe"] * 4 + ["surely"])

    def test_surely_between_two_entries_of_the_same_person(self):
        keys = [((1,), False, [(2, 10, 10), (2, 20, 30)])]
        self.assertEqual(answers(keys, ALWAYS, 2, (9, 10, 25, 30)), ["no", "surely", "surely", "surely"])

    def test_an_entry_that_is_over_in_the_moment_it_is_begun(self):
        keys = [((1,), False, [(0, 5, 5), (1, 5, 5), (2, 5, 5)])]
        for person, told in ((0, "no"), (1, "no"), (2, "surely")):
            self.assertEqual(answers(keys, ALWAYS, person, (4, 5, 6)), ["no", told, told])

    def test_a_book_without_keys_and_a_key_that_was_never_handed(self):
        self.assertEqual(answers([], ALWAYS, 0, (0, 500, 999)), ["no"] * 3)
        self.assertEqual(answers([((1,), True, [])], ALWAYS, 0, (0, 500, 999)), ["no"] * 3)

    def test_a_key_that_opens_nothing_or_another_kind(self):
        for plain in (False, True):
            for opens in ((), (0,), (2, 3), (0, 2, 3, 4, 5, 6, 7, 8, 9)):
                keys = [(opens, plain, [(0, 0, 0)])]
                self.assertEqual(answers(keys, ALWAYS, 0, (0, 999)), ["no", "no"], opens)

    def test_kinds_0_and_9(self):
        for kind in (0, 9):
            keys = [((0, 9), False, [(0, 0, 0)])]
            self.assertEqual(answers(keys, [(kind, 0, 0)], 0, (0, 999)), ["surely"] * 2)

    def test_a_full_row(self):
        keys = [((1,), False, [(at % 3, 10 * at, 10 * at + 5) for at in range(8)])]
        self.assertEqual(answers(keys, ALWAYS, 1, (69, 70, 74, 75)), ["no", "maybe", "maybe", "surely"])
        self.assertEqual(answers(keys, ALWAYS, 0, (69, 70, 74, 75)), ["surely", "maybe", "maybe", "no"])
        self.assertEqual(answers(keys, ALWAYS, 2, (19, 20, 25, 36)), ["no", "maybe", "surely", "no"])

    def test_two_keys_may_change_hands_and_one_be_there_always(self):
        keys = [((1,), False, [(0, 0, 0), (1, 10, 10)]), ((1,), False, [(1, 0, 0), (0, 8, 10)])]
        self.assertEqual(answers(keys, ALWAYS, 0, (7, 8, 9, 10, 11)), ["surely"] * 5)

    def test_two_keys_of_which_either_may_be_there_make_no_surely(self):
        keys = [((1,), False, [(0, 0, 0), (1, 5, 10)]), ((1,), False, [(0, 5, 10)])]
        self.assertEqual(answers(keys, ALWAYS, 0, (4, 5, 9, 10)), ["surely", "maybe", "maybe", "surely"])


class NotKnown(unittest.TestCase):
    def test_one_who_is_not_known_may_be_anybody_and_is_nobody_surely(self):
        keys = [((1,), False, [(None, 4, 4)])]
        for persons in (1, 8):
            for person in range(persons):
                told = answers(keys, ALWAYS, person, (3, 4, 999), persons)
                self.assertEqual(told, ["no", "maybe", "maybe"])

    def test_one_who_is_not_known_may_have_come_in_between(self):
        keys = [((1,), False, [(0, 0, 0), (None, 5, 7), (0, 9, 9)])]
        told = answers(keys, ALWAYS, 0, (4, 5, 7, 8, 9))
        self.assertEqual(told, ["surely", "maybe", "maybe", "maybe", "surely"])
        self.assertEqual(answers(keys, ALWAYS, 1, (4, 5, 7, 8, 9)), ["no"] + ["maybe"] * 3 + ["no"])

    def test_one_who_is_not_known_may_have_had_a_copy_made(self):
        keys = [((1,), True, [(None, 5, 5), (0, 9, 9)])]
        self.assertEqual(answers(keys, ALWAYS, 1, (4, 5, 9, 999)), ["no", "maybe", "maybe", "maybe"])
        self.assertEqual(answers(keys, ALWAYS, 0, (4, 5, 9, 999)), ["no", "maybe", "surely", "surely"])

    def test_a_key_with_somebody_not_known_that_opens_nothing(self):
        self.assertEqual(answers([((), True, [(None, 0, 0)])], ALWAYS, 0, (0, 999)), ["no", "no"])

    def test_one_who_is_not_known_and_has_it_for_no_time(self):
        keys = [((1,), True, [(None, 5, 5), (0, 5, 5)])]
        self.assertEqual(answers(keys, ALWAYS, 1, (4, 5, 999)), ["no"] * 3)


class Copies(unittest.TestCase):
    def test_a_plain_key_that_was_given_away_may_have_been_copied(self):
        entries = [(0, 5, 6), (1, 8, 8)]
        told = answers([((1,), True, entries)], ALWAYS, 0, (4, 5, 6, 7, 8, 999))
        self.assertEqual(told, ["no", "maybe", "surely", "surely", "maybe", "maybe"])
        told = answers([((1,), False, entries)], ALWAYS, 0, (4, 5, 6, 7, 8, 999))
        self.assertEqual(told, ["no", "maybe", "surely", "surely", "no", "no"])

    def test_no_copy_ahead_of_having_the_key(self):
        keys = [((1,), True, [(0, 5, 6), (1, 8, 9)])]
        self.assertEqual(answers(keys, ALWAYS, 1, (4, 5, 7, 8)), ["no", "no", "no", "maybe"])
        self.assertEqual(answers(keys, ALWAYS, 2, (4, 7, 8, 999)), ["no"] * 4)

    def test_no_copy_of_a_key_that_is_had_for_no_time(self):
        keys = [((1,), True, [(0, 5, 5), (1, 5, 5)])]
        self.assertEqual(answers(keys, ALWAYS, 0, (4, 5, 6, 999)), ["no"] * 4)
        keys = [((1,), True, [(0, 3, 7), (1, 3, 3)])]
        self.assertEqual(answers(keys, ALWAYS, 0, (2, 3, 7, 999)), ["no"] * 4)

    def test_a_copy_of_a_key_that_may_be_had_for_one_moment(self):
        keys = [((1,), True, [(0, 5, 6), (1, 6, 6)])]
        self.assertEqual(answers(keys, ALWAYS, 0, (4, 5, 6, 999)), ["no", "maybe", "maybe", "maybe"])

    def test_the_copy_opens_what_the_key_opens_also_locks_that_come_later(self):
        keys = [((1, 2), True, [(0, 0, 0), (1, 10, 10)])]
        door = [(3, 0, 0), (2, 20, 20), (3, 30, 30), (1, 40, 40)]
        told = answers(keys, door, 0, (5, 15, 20, 29, 30, 39, 40, 999))
        self.assertEqual(told, ["no", "no", "maybe", "maybe", "no", "no", "maybe", "maybe"])

    def test_a_copy_makes_no_surely(self):
        keys = [((1,), True, [(0, 0, 0), (None, 10, 10)])]
        self.assertEqual(answers(keys, ALWAYS, 0, (9, 10, 999)), ["surely", "maybe", "maybe"])

    def test_in_the_first_moment_and_in_the_last(self):
        keys = [((1,), True, [(0, 0, 0), (1, 1, 1)])]
        self.assertEqual(answers(keys, ALWAYS, 0, (0, 1, 999)), ["surely", "maybe", "maybe"])
        keys = [((1,), True, [(0, 0, 999), (1, 999, 999)])]
        self.assertEqual(answers(keys, ALWAYS, 0, (0, 998, 999)), ["maybe", "maybe", "maybe"])
        keys = [((1,), True, [(0, 999, 999), (1, 999, 999)])]
        self.assertEqual(answers(keys, ALWAYS, 0, (998, 999)), ["no", "no"])


class Doors(unittest.TestCase):
    def test_a_door_without_a_lock_is_opened_by_nobody(self):
        for plain in (False, True):
            keys = [(tuple(range(10)), plain, [(0, 0, 0)]), (tuple(range(10)), plain, [(None, 0, 0)])]
            self.assertEqual(answers(keys, [], 0, (0, 500, 999)), ["no"] * 3)

    def test_ahead_of_within_and_after_the_moments_at_which_it_got_a_lock(self):
        keys = [((1,), False, [(0, 0, 0)])]
        told = answers(keys, [(1, 10, 20)], 0, (0, 9, 10, 19, 20, 999))
        self.assertEqual(told, ["no", "no", "maybe", "maybe", "surely", "surely"])

    def test_the_lock_is_changed(self):
        keys = [((1,), False, [(0, 0, 0)])]
        told = answers(keys, [(1, 0, 0), (2, 10, 20)], 0, (0, 9, 10, 19, 20))
        self.assertEqual(told, ["surely", "surely", "maybe", "maybe", "no"])

    def test_a_key_for_both_locks_opens_at_any_moment(self):
        keys = [((1, 2), False, [(0, 0, 0)])]
        self.assertEqual(answers(keys, [(1, 0, 0), (2, 10, 20)], 0, (0, 10, 15, 20)), ["surely"] * 4)

    def test_a_key_for_each_of_the_locks_there_may_be(self):
        keys = [((1,), False, [(0, 0, 0)]), ((2,), False, [(0, 0, 0)])]
        door = [(1, 0, 0), (2, 10, 20)]
        self.assertEqual(answers(keys, door, 0, (0, 10, 15, 20)), ["surely"] * 4)
        keys[1] = ((2,), False, [(0, 0, 0), (1, 15, 15)])
        self.assertEqual(answers(keys, door, 0, (0, 10, 14, 15, 20)), ["surely"] * 3 + ["maybe", "no"])

    def test_a_lock_that_is_replaced_in_the_moment_it_is_got(self):
        keys = [((1,), True, [(0, 0, 0)])]
        self.assertEqual(answers(keys, [(1, 5, 5), (2, 5, 5)], 0, (4, 5, 6)), ["no"] * 3)
        self.assertEqual(answers(keys, [(2, 5, 5), (1, 5, 5)], 0, (4, 5, 6)), ["no", "surely", "surely"])

    def test_key_and_door_are_told_of_by_themselves(self):
        keys = [((1,), False, [(0, 5, 10), (1, 10, 15)])]
        told = answers(keys, [(1, 5, 10), (2, 10, 15)], 0, (4, 5, 9, 10, 14, 15))
        self.assertEqual(told, ["no"] + ["maybe"] * 4 + ["no"])

    def test_the_first_and_the_last_moment(self):
        keys = [((1,), False, [(0, 0, 0)])]
        self.assertEqual(answers(keys, [(1, 999, 999)], 0, (0, 998, 999)), ["no", "no", "surely"])
        self.assertEqual(answers(keys, [(1, 0, 999)], 0, (0, 998, 999)), ["maybe", "maybe", "surely"])

    def test_a_full_row(self):
        keys = [((1,), False, [(0, 0, 0)])]
        door = [(at % 2, 10 * at, 10 * at + 5) for at in range(8)]
        told = answers(keys, door, 0, (5, 10, 14, 15, 69, 70, 75, 999))
        self.assertEqual(told, ["no", "maybe", "maybe", "surely", "no", "maybe", "surely", "surely"])

    def test_each_door_is_told_of_by_itself(self):
        book = book_of(2, [((2, 3), False, [(1, 0, 0)])], [], [(2, 0, 0)], [(1, 0, 0)], [(3, 0, 1)])
        self.assertEqual([could(book, 1, door, 0) for door in range(4)], ["no", "surely", "no", "maybe"])
        self.assertEqual([openers(book, door, 0) for door in range(4)], [([], []), ([1], []), ([], []), ([], [1])])
        self.assertEqual([first(book, 1, door) for door in range(4)], [None, 0, None, 0])


class Openers(unittest.TestCase):
    def test_who_surely_can_and_who_maybe_can_each_in_one_list(self):
        keys = [
            ((1,), True, [(3, 0, 0), (0, 10, 10)]),
            ((1,), False, [(5, 0, 0), (2, 10, 20)]),
            ((1,), False, [(1, 0, 0)]),
        ]
        book = book_of(6, keys, ALWAYS)
        self.assertEqual(openers(book, 0, 9), ([1, 3, 5], []))
        self.assertEqual(openers(book, 0, 15), ([0, 1], [2, 3, 5]))
        self.assertEqual(openers(book, 0, 20), ([0, 1, 2], [3]))

    def test_nobody(self):
        self.assertEqual(openers(book_of(8), 0, 0), ([], []))
        self.assertEqual(openers(book_of(8, [((1,), True, [])], ALWAYS), 0, 999), ([], []))

    def test_all_but_who_surely_can_when_a_key_is_with_one_not_known(self):
        keys = [((1,), False, [(None, 3, 3)]), ((1,), False, [(4, 3, 3)])]
        book = book_of(8, keys, ALWAYS)
        self.assertEqual(openers(book, 0, 2), ([], []))
        self.assertEqual(openers(book, 0, 3), ([4], [0, 1, 2, 3, 5, 6, 7]))

    def test_the_only_person(self):
        book = book_of(1, [((1,), False, [(0, 3, 5)])], ALWAYS)
        self.assertEqual([openers(book, 0, at) for at in (2, 3, 5)], [([], []), ([], [0]), ([0], [])])


class First(unittest.TestCase):
    def check(self, keys, door, told):
        book = book_of(len(told), keys, door)
        self.assertEqual([first(book, person, 0) for person in range(len(told))], told)

    def test_there_is_none(self):
        self.check([], ALWAYS, [None])
        self.check([((1,), True, [])], ALWAYS, [None])
        self.check([((), True, [(0, 0, 0)])], ALWAYS, [None])
        self.check([((1,), True, [(0, 0, 0)])], [], [None])
        self.check([((1,), True, [(0, 0, 0)])], [(2, 0, 0)], [None])
        self.check([((1,), True, [(0, 0, 0)])], ALWAYS, [0, None])

    def test_the_key_comes_when_the_lock_is_there(self):
        self.check([((1,), False, [(0, 7, 9)])], ALWAYS, [7])

    def test_the_lock_comes_when_the_key_is_there(self):
        self.check([((1,), False, [(0, 2, 2)])], [(1, 7, 9)], [7])

    def test_the_first_and_the_last_moment(self):
        self.check([((1,), False, [(0, 0, 999)])], ALWAYS, [0])
        self.check([((1,), False, [(0, 999, 999)])], ALWAYS, [999])
        self.check([((1,), False, [(0, 0, 0)])], [(1, 999, 999)], [999])

    def test_surely_without_a_maybe_ahead_of_it(self):
        self.check([((1,), False, [(0, 7, 7)])], ALWAYS, [7])

    def test_an_entry_waits_for_those_ahead(self):
        self.check([((1,), False, [(0, 8, 9), (1, 0, 20)])], ALWAYS, [8, 8])
        self.check([((1,), False, [(1, 0, 0)])], [(2, 8, 9), (1, 0, 20)], [None, 8])

    def test_the_key_is_gone_when_the_lock_comes(self):
        entries = [(0, 2, 2), (1, 5, 5)]
        self.check([((1,), False, entries)], [(1, 6, 8)], [None, 6])
        self.check([((1,), True, entries)], [(1, 6, 8)], [6, 6])

    def test_the_lock_is_gone_when_the_key_comes(self):
        self.check([((1,), True, [(0, 6, 8)])], [(1, 0, 0), (2, 6, 6)], [None])
        self.check([((1,), True, [(0, 6, 8)])], [(1, 0, 0), (2, 6, 7)], [6])

    def test_the_key_comes_back_for_the_lock(self):
        entries = [(0, 2, 2), (1, 5, 5), (0, 9, 12)]
        self.check([((1,), False, entries)], [(1, 6, 6)], [9, 6])

    def test_the_first_of_several_keys_and_locks(self):
        keys = [((1,), False, [(0, 20, 20)]), ((2,), False, [(0, 5, 5), (1, 9, 9)]), ((3,), True, [(0, 1, 1)])]
        self.check(keys, [(1, 0, 0), (2, 8, 8), (3, 12, 12)], [8, 9])

    def test_one_who_is_not_known(self):
        self.check([((1,), False, [(0, 2, 2), (None, 5, 7), (1, 9, 9)])], ALWAYS, [2, 5, 5])

    def test_an_entry_that_is_over_in_the_moment_it_is_begun(self):
        self.check([((1,), True, [(0, 5, 5), (1, 5, 5)])], ALWAYS, [None, 5])


class Refusals(unittest.TestCase):
    """Which refusal comes first: the person's, the door's, the moment's."""

    def setUp(self):
        self.book = book_of(3, [((1,), True, [(0, 0, 0)])], ALWAYS, [])

    def test_persons_that_there_are_not(self):
        for person in (-2, -1, 3, 4, 8):
            self.assertRaises(NoOne, could, self.book, person, 0, 0)
            self.assertRaises(NoOne, first, self.book, person, 0)

    def test_doors_that_there_are_not(self):
        for door in (-2, -1, 2, 3, 4):
            self.assertRaises(NoOne, could, self.book, 0, door, 0)
            self.assertRaises(NoOne, openers, self.book, door, 0)
            self.assertRaises(NoOne, first, self.book, 0, door)

    def test_moments_that_there_are_not(self):
        for moment in (-2, -1, 1000, 1001):
            self.assertRaises(NoMoment, could, self.book, 0, 0, moment)
            self.assertRaises(NoMoment, openers, self.book, 0, moment)

    def test_the_person_and_the_door_ahead_of_the_moment(self):
        for moment in (-1, 1000):
            self.assertRaises(NoOne, could, self.book, 3, 0, moment)
            self.assertRaises(NoOne, could, self.book, 0, 2, moment)
            self.assertRaises(NoOne, could, self.book, -1, -1, moment)
            self.assertRaises(NoOne, openers, self.book, 2, moment)
            self.assertRaises(NoOne, openers, self.book, -1, moment)

    def test_also_by_books_in_which_there_is_nothing(self):
        book = book_of(1)
        self.assertRaises(NoOne, could, book, 1, 0, 0)
        self.assertRaises(NoOne, could, book, 0, 1, 0)
        self.assertRaises(NoMoment, could, book, 0, 0, 1000)
        self.assertRaises(NoOne, openers, book, 1, 0)
        self.assertRaises(NoMoment, openers, book, 0, -1)
        self.assertRaises(NoOne, first, book, 1, 0)
        self.assertRaises(NoOne, first, book, 0, 1)


class EveryWorld(unittest.TestCase):
    """Small books, against a look into each of their worlds."""

    def test_could_and_openers_and_first(self):
        seen = {"surely": 0, "maybe": 0, "no": 0}
        for persons, keys, door, moments in some_books(1, 600):
            book = book_of(persons, keys, door)
            right = [[answer(keys, door, person, moment) for moment in moments] for person in range(persons)]
            for person in range(persons):
                told = [could(book, person, 0, moment) for moment in moments]
                self.assertEqual(told, right[person], (keys, door, person))
                can = [moment for moment, word in zip(moments, told) if word != "no"]
                self.assertEqual(first(book, person, 0), can[0] if can else None, (keys, door, person))
                for word in told:
                    seen[word] += 1
            for at, moment in enumerate(moments):
                surely = [person for person in range(persons) if right[person][at] == "surely"]
                maybe = [person for person in range(persons) if right[person][at] == "maybe"]
                self.assertEqual(openers(book, 0, moment), (surely, maybe), (keys, door, moment))
        self.assertGreater(min(seen.values()), 200, seen)


class LearningMore(unittest.TestCase):
    """Point [10]: a later early or a sooner late takes no "surely" and gives no "maybe" for a "no"."""

    def closer(self, row):
        """The rows that differ by one moment from this one, more being known."""
        found = []
        for at, (what, early, late) in enumerate(row):
            for window in ((early + 1, late), (early, late - 1)):
                if window[0] <= window[1]:
                    found.append([*row[:at], (what, *window), *row[at + 1:]])
        return found

    def learned(self, keys, door):
        """The keys and the door as they may be told when more is known of one entry."""
        found = [(keys, row) for row in self.closer(door)]
        for name, (opens, plain, entries) in enumerate(keys):
            for row in self.closer(entries):
                found.append(([*keys[:name], (opens, plain, row), *keys[name + 1:]], door))
        return found

    def told(self, persons, keys, door, moments):
        book = book_of(persons, keys, door)
        return [could(book, person, 0, moment) for person in range(persons) for moment in moments]

    def test_no_surely_is_lost_and_no_no_becomes_maybe(self):
        lost = {"surely": 0, "maybe": 0, "no": 0}
        for persons, keys, door, moments in some_books(2, 300):
            before = self.told(persons, keys, door, moments)
            for more_keys, more_door in self.learned(keys, door):
                try:
                    after = self.told(persons, more_keys, more_door, moments)
                except BadTimes:
                    continue
                for old, new in zip(before, after):
                    self.assertTrue(old == "maybe" or old == new, (old, new, more_keys, more_door))
                    lost[old] += old != new
        self.assertGreater(lost["maybe"], 100)
