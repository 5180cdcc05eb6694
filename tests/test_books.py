"""Points [1] and [2], and keyroll/books.py: the book itself, and its keys."""

import inspect
import unittest

from keyroll.books import Book
from keyroll.errors import BadBook, BadKey, NoOne


class Interface(unittest.TestCase):
    def test_book_stands_in_its_file(self):
        self.assertEqual(Book.__module__, "keyroll.books")
        self.assertEqual(list(inspect.signature(Book).parameters), ["persons", "doors"])

    def test_methods_are_the_class_s_own_with_the_listed_arguments(self):
        listed = {
            "cut": ["opens", "plain"],
            "hand": ["name", "place", "person", "early", "late"],
            "fit": ["door", "place", "kind", "early", "late"],
            "entries": ["name"],
            "fitted": ["door"],
            "holders": ["name", "moment"],
            "locks": ["door", "moment"],
        }
        for method, arguments in listed.items():
            self.assertIn(method, vars(Book))
            names = list(inspect.signature(vars(Book)[method]).parameters)
            self.assertEqual(names[1:], arguments, method)

    def test_arguments_may_be_given_by_name(self):
        book = Book(persons=2, doors=1)
        name = book.cut(opens=(1,), plain=False)
        book.hand(name=name, place=0, person=1, early=3, late=4)
        book.fit(door=0, place=0, kind=1, early=3, late=4)
        self.assertEqual(book.entries(name=name), [(1, 3, 4)])
        self.assertEqual(book.fitted(door=0), [(1, 3, 4)])
        self.assertEqual(book.holders(name=name, moment=4), (1, [1]))
        self.assertEqual(book.locks(door=0, moment=4), [1])


class PersonsAndDoors(unittest.TestCase):
    def test_every_number_within_the_limits_will_do(self):
        for persons in range(1, 9):
            for doors in range(1, 5):
                book = Book(persons, doors)
                self.assertEqual(book.fitted(doors - 1), [])
                self.assertRaises(NoOne, book.fitted, doors)
                name = book.cut((), True)
                book.hand(name, 0, persons - 1, 0, 0)
                self.assertRaises(NoOne, book.hand, name, 1, persons, 0, 0)

    def test_too_few_or_too_many_persons(self):
        for persons in (-1, 0, 9, 10):
            self.assertRaises(BadBook, Book, persons, 1)

    def test_too_few_or_too_many_doors(self):
        for doors in (-1, 0, 5, 6):
            self.assertRaises(BadBook, Book, 1, doors)

    def test_books_have_nothing_in_common(self):
        one, other = Book(2, 2), Book(2, 2)
        one.hand(one.cut((1,), True), 0, 1, 0, 5)
        one.fit(1, 0, 1, 0, 5)
        self.assertEqual(other.fitted(1), [])
        self.assertRaises(NoOne, other.entries, 0)
        self.assertEqual(other.cut((1,), True), 0)
        self.assertEqual(other.entries(0), [])

    def test_doors_of_a_book_have_nothing_in_common(self):
        book = Book(1, 4)
        book.fit(2, 0, 5, 1, 2)
        self.assertEqual([book.fitted(door) for door in range(4)], [[], [], [(5, 1, 2)], []])


class Cut(unittest.TestCase):
    def setUp(self):
        self.book = Book(2, 1)

    def refusal(self, opens):
        with self.assertRaises(BadKey) as caught:
            self.book.cut(opens, True)
        return caught.exception.word

    def test_numbers_go_up_from_0_to_the_sixth_key(self):
        made = [self.book.cut((kind,), kind % 2 == 0) for kind in range(6)]
        self.assertEqual(made, [0, 1, 2, 3, 4, 5])
        self.assertEqual([self.book.entries(name) for name in made], [[]] * 6)

    def test_the_seventh_key_is_one_too_many(self):
        for _ in range(6):
            self.book.cut((1,), True)
        self.assertEqual(self.refusal((1,)), "many")
        self.assertEqual(self.refusal(()), "many")
        self.assertRaises(NoOne, self.book.entries, 6)

    def test_no_kind_and_all_ten(self):
        self.assertEqual(self.book.cut((), True), 0)
        self.assertEqual(self.book.cut(tuple(range(10)), False), 1)

    def test_keys_may_open_the_same(self):
        self.assertEqual(self.book.cut((0, 9), True), 0)
        self.assertEqual(self.book.cut((0, 9), True), 1)

    def test_kinds_that_there_are_not(self):
        for opens in ((-1,), (10,), (-1, 3), (3, 10), (0, 4, 11), tuple(range(11))):
            self.assertEqual(self.refusal(opens), "opens", opens)

    def test_kinds_that_do_not_rise(self):
        for opens in ((1, 1), (0, 0), (2, 1), (0, 5, 5), (0, 5, 3), (9, 9)):
            self.assertEqual(self.refusal(opens), "opens", opens)

    def test_what_a_key_opens_is_refused_ahead_of_a_seventh_one(self):
        for _ in range(6):
            self.book.cut((), False)
        self.assertEqual(self.refusal((10,)), "opens")

    def test_a_refused_key_takes_no_number(self):
        self.refusal((4, 4))
        self.assertRaises(NoOne, self.book.entries, 0)
        self.assertEqual(self.book.cut((4,), True), 0)
        self.refusal((10,))
        self.assertEqual(self.book.cut((4,), True), 1)


class Copies(unittest.TestCase):
    def setUp(self):
        self.book = Book(3, 1)
        self.book.cut((1,), True)
        self.book.hand(0, 0, 1, 0, 5)
        self.book.hand(0, 1, None, 2, 8)
        self.book.fit(0, 0, 4, 0, 5)

    def answers(self):
        return [
            self.book.entries(0),
            self.book.fitted(0),
            self.book.holders(0, 6)[1],
            self.book.holders(0, 1)[1],
            self.book.locks(0, 3),
        ]

    def test_whatever_is_asked_again_is_answered_with_the_same(self):
        self.assertEqual(self.answers(), self.answers())

    def test_what_is_given_back_may_be_changed(self):
        before = self.answers()
        for given in self.answers():
            given.append("more")
            given[0] = "other"
        self.assertEqual(self.answers(), before)
        self.book.hand(0, 2, 2, 9, 9)
        self.assertEqual(self.book.entries(0), [(1, 0, 5), (None, 2, 8), (2, 9, 9)])

    def test_an_answer_that_was_given_stays_as_it_was(self):
        entries, fitted = self.book.entries(0), self.book.fitted(0)
        self.book.hand(0, 2, 2, 9, 9)
        self.book.fit(0, 1, 2, 9, 9)
        self.assertEqual(entries, [(1, 0, 5), (None, 2, 8)])
        self.assertEqual(fitted, [(4, 0, 5)])

    def test_the_kinds_of_what_is_told(self):
        told = self.book.holders(0, 6)
        self.assertIs(type(told), tuple)
        self.assertEqual(len(told), 2)
        self.assertEqual([type(given) for given in self.answers()], [list] * 5)
        for entry in self.book.entries(0) + self.book.fitted(0):
            self.assertIs(type(entry), tuple)
        self.assertIsNone(self.book.hand(0, 2, 0, 9, 9))
        self.assertIsNone(self.book.fit(0, 1, 0, 9, 9))
        self.assertIs(type(self.book.cut((), True)), int)
