"""Point [1]: what is promised over the whole program, all of its answers taken together."""

import unittest

from every_world import book_of
from keyroll.errors import BadBook, BadKey, BadPlace, BadTimes, KeyrollError, NoMoment, NoOne
from keyroll.books import Book
from keyroll.opening import could, first, openers
from keyroll.worlds import denied, shown

MOMENTS = (0, 4, 5, 7, 8, 12, 999)


def a_book():
    keys = [
        ((1, 2), True, [(0, 5, 7), (None, 8, 9), (2, 10, 12)]),
        ((2,), False, [(1, 0, 12)]),
        ((), True, [(0, 0, 0)]),
    ]
    return book_of(3, keys, [(1, 0, 5), (2, 3, 8)], [])


def answers(book):
    """All that a book of three persons, three keys and two doors can be asked."""
    asked = [book.entries(name) for name in range(3)] + [book.fitted(door) for door in range(2)]
    asked += [book.cuts(), book.everybody()]
    asked += [first(book, person, door) for person in range(3) for door in range(2)]
    for moment in MOMENTS:
        asked += [book.holders(name, moment) for name in range(3)]
        for door in range(2):
            asked += [book.locks(door, moment), openers(book, door, moment)]
            for person in range(3):
                asked.append(could(book, person, door, moment))
                asked.append(shown(book, person, door, moment))
                asked.append(denied(book, person, door, moment))
    return asked


def spoil(given):
    """Change all that can be changed of what was given back, at any depth."""
    if isinstance(given, (list, tuple)):
        for part in given:
            spoil(part)
    if isinstance(given, list):
        given[:] = ["spoilt"]


class TheWhole(unittest.TestCase):
    def test_whatever_is_asked_again_is_answered_with_the_same(self):
        book = a_book()
        told = answers(book)
        for _ in range(3):
            self.assertEqual(answers(book), told)
        self.assertEqual(answers(a_book()), told)

    def test_the_order_in_which_it_is_asked_does_not_matter(self):
        book, other = a_book(), a_book()
        forth = [could(book, person, 0, moment) for person in range(3) for moment in MOMENTS]
        back = [could(other, person, 0, moment) for person in (2, 1, 0) for moment in MOMENTS[::-1]]
        self.assertEqual(forth, back[::-1])

    def test_what_is_given_back_may_be_changed(self):
        book = a_book()
        told = answers(book)
        spoil(answers(book))
        self.assertEqual(answers(book), told)

    def test_parts_of_one_answer_have_nothing_in_common(self):
        keys = [((1,), False, [(0, 5, 5)])] * 3
        book = book_of(2, keys, [(1, 5, 5)])
        begun, fits = denied(book, 0, 0, 4)
        begun[0].append("more")
        self.assertEqual((begun[1:], fits), ([[5], [5]], [5]))
        _, begun, _, fits = shown(book, 0, 0, 5)
        begun.append("more")
        self.assertEqual(fits, [5])
        surely, maybe = openers(book, 0, 4)
        surely.append("more")
        self.assertEqual(maybe, [])

    def test_an_answer_that_was_given_stays_as_it_was(self):
        book = a_book()
        told, kept = answers(book), answers(book)
        book.hand(0, 0, 1, 0, 0)
        book.fit(0, 0, 2, 0, 0)
        book.cut((1,), True)
        self.assertEqual(told, kept)

    def test_a_book_is_asked_as_it_stands_then(self):
        book = Book(2, 1)
        asked = [could(book, 0, 0, 5)]
        book.fit(0, 0, 1, 0, 0)
        book.hand(book.cut((1,), False), 0, 0, 3, 5)
        asked.append(could(book, 0, 0, 5))
        self.assertEqual((first(book, 0, 0), openers(book, 0, 5)), (3, ([0], [])))
        self.assertEqual((shown(book, 0, 0, 5)[0], denied(book, 0, 0, 5)), (0, None))
        book.hand(0, 1, None, 5, 9)
        asked.append(could(book, 0, 0, 5))
        self.assertEqual(openers(book, 0, 5), ([], [0, 1]))
        book.hand(0, 2, 1, 5, 5)
        asked.append(could(book, 0, 0, 5))
        self.assertEqual((first(book, 0, 0), openers(book, 0, 5)), (3, ([1], [])))
        book.fit(0, 1, 2, 0, 0)
        asked.append(could(book, 1, 0, 5))
        self.assertEqual((first(book, 1, 0), openers(book, 0, 5)), (None, ([], [])))
        book.hand(book.cut((2,), True), 0, 1, 4, 4)
        asked.append(could(book, 1, 0, 5))
        self.assertEqual(asked, ["no", "surely", "maybe", "no", "no", "surely"])
        self.assertEqual(first(book, 1, 0), 4)

    def test_books_have_nothing_in_common(self):
        one, other = a_book(), a_book()
        told = answers(other)
        one.hand(0, 3, 1, 12, 12)
        one.fit(1, 0, 1, 0, 0)
        answers(one)
        self.assertEqual(answers(other), told)

    def test_whatever_is_refused_changes_nothing(self):
        book = a_book()
        told = answers(book)
        for kind, call in (
            (BadKey, lambda: book.cut((2, 1), True)),
            (NoOne, lambda: book.hand(3, 0, 0, 0, 0)),
            (BadPlace, lambda: book.hand(0, 4, 0, 12, 12)),
            (NoOne, lambda: book.hand(0, 3, 3, 12, 12)),
            (BadTimes, lambda: book.hand(0, 0, 0, 11, 11)),
            (NoOne, lambda: book.fit(2, 0, 0, 0, 0)),
            (BadPlace, lambda: book.fit(0, 3, 0, 9, 9)),
            (BadKey, lambda: book.fit(0, 0, 10, 0, 0)),
            (BadTimes, lambda: book.fit(0, 0, 0, 9, 9)),
            (BadBook, lambda: Book(9, 1)),
            (NoMoment, lambda: book.holders(0, 1000)),
            (NoMoment, lambda: book.locks(0, -1)),
            (NoMoment, lambda: could(book, 0, 0, 1000)),
            (NoMoment, lambda: openers(book, 0, -1)),
            (NoOne, lambda: first(book, 3, 0)),
            (NoMoment, lambda: shown(book, 0, 0, 1000)),
            (NoMoment, lambda: denied(book, 0, 0, -1)),
        ):
            with self.assertRaises(KeyrollError) as caught:
                call()
            self.assertIs(type(caught.exception), kind)
            self.assertEqual(answers(book), told)

    def test_what_is_handed_in_stays_as_it_was(self):
        opens = (1, 2)
        book = Book(2, 1)
        book.hand(book.cut(opens, True), 0, 1, 0, 4)
        book.fit(0, 0, 2, 0, 4)
        for moment in (0, 4, 999):
            openers(book, 0, moment)
            shown(book, 1, 0, moment)
            denied(book, 1, 0, moment)
        self.assertEqual(opens, (1, 2))
        self.assertEqual((book.entries(0), book.fitted(0)), ([(1, 0, 4)], [(2, 0, 4)]))

    def test_could_shown_denied_openers_and_first_agree(self):
        book = a_book()
        for person in range(3):
            for door in range(2):
                told = [could(book, person, door, moment) for moment in range(1000)]
                can = [moment for moment in range(1000) if told[moment] != "no"]
                self.assertEqual(first(book, person, door), can[0] if can else None)
                for moment in MOMENTS:
                    word = told[moment]
                    self.assertEqual(shown(book, person, door, moment) is None, word == "no")
                    self.assertEqual(denied(book, person, door, moment) is None, word == "surely")
                    surely, maybe = openers(book, door, moment)
                    self.assertEqual((person in surely, person in maybe), (word == "surely", word == "maybe"))
