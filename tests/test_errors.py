"""keyroll/errors.py: the classes of the refusals and their fields."""

import unittest

from keyroll import errors
from keyroll.books import Book

UNDER = [
    errors.BadBook,
    errors.BadKey,
    errors.NoOne,
    errors.BadPlace,
    errors.BadTimes,
    errors.NoMoment,
]


class Classes(unittest.TestCase):
    def test_any_refusal_is_a_value_error(self):
        self.assertTrue(issubclass(errors.KeyrollError, ValueError))

    def test_all_stand_under_keyroll_error(self):
        for kind in UNDER:
            self.assertTrue(issubclass(kind, errors.KeyrollError), kind)
            self.assertIsNot(kind, errors.KeyrollError)

    def test_none_stands_under_another_one(self):
        for kind in UNDER:
            for other in UNDER:
                if kind is not other:
                    self.assertFalse(issubclass(kind, other), (kind, other))

    def test_each_is_defined_in_its_file(self):
        for kind in [errors.KeyrollError, *UNDER]:
            self.assertEqual(kind.__module__, "keyroll.errors")


class Fields(unittest.TestCase):
    def test_bad_key_has_its_word_from_the_start(self):
        for word in ("opens", "many", "kind"):
            self.assertEqual(errors.BadKey(word).word, word)

    def test_bad_times_has_its_place_from_the_start(self):
        for place in (0, 7):
            self.assertEqual(errors.BadTimes(place).place, place)

    def test_any_refusal_can_be_caught_by_the_one_name(self):
        book = Book(1, 1)
        book.cut((), True)
        calls = [
            lambda: Book(0, 1),
            lambda: book.cut((10,), True),
            lambda: book.entries(1),
            lambda: book.hand(0, 1, 0, 0, 0),
            lambda: book.hand(0, 0, 0, 1, 0),
            lambda: book.holders(0, 1000),
        ]
        for call, kind in zip(calls, UNDER):
            with self.assertRaises(errors.KeyrollError) as caught:
                call()
            self.assertIs(type(caught.exception), kind)
