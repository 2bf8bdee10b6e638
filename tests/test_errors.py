"""The error classes [3, and the interface's row for them]."""

import copy
import pickle
import unittest

from elsetold import errors
from elsetold.errors import CryError, NoText, TooMany

WITH_A_TEXT = [
    "NoWeb", "NoPlace", "NoStarters", "NoBeat", "NoNeighbour", "NoRecord", "NoFolk", "Taken", "NoWay", "NoTellings",
    "NoCry", "Twice", "Busy", "Nothing", "NoForm", "NoNight",
]
WITH_A_FIELD = ["TooMany", "NoText"]


class Errors(unittest.TestCase):
    def test_cry_error_is_a_value_error_and_made_as_any(self):
        self.assertEqual(CryError.__bases__, (ValueError,))
        for words in [(), ("a",), ("a", 2), (None, [], {})]:
            self.assertEqual(CryError(*words).args, words)

    def test_each_class_stands_straight_under_cry_error(self):
        for name in WITH_A_TEXT + WITH_A_FIELD:
            with self.subTest(name):
                made = getattr(errors, name)
                self.assertEqual(made.__name__, name)
                self.assertEqual(made.__module__, "elsetold.errors")
                self.assertEqual(made.__bases__, (CryError,))

    def test_there_is_no_other_class(self):
        found = [name for name in vars(errors) if isinstance(getattr(errors, name), type)]
        self.assertEqual(sorted(found), sorted(WITH_A_TEXT + WITH_A_FIELD + ["CryError"]))

    def test_each_other_one_is_made_with_one_text(self):
        for name in WITH_A_TEXT:
            with self.subTest(name):
                error = getattr(errors, name)("some words")
                self.assertEqual(str(error), "some words")
                self.assertIsInstance(error, ValueError)

    def test_the_field_is_kept_by_place_and_by_name(self):
        for many in [0, 401, 10 ** 39, None, True]:
            self.assertIs(TooMany(many).many, TooMany(many=many).many)
            self.assertEqual(TooMany(many).many, many)
            self.assertEqual(NoText(many).row, many)
            self.assertEqual(NoText(row=many).row, many)

    def test_the_field_is_needed_and_has_no_other_name(self):
        for made in [TooMany, NoText]:
            with self.assertRaises(TypeError):
                made()
            with self.assertRaises(TypeError):
                made(1, 2)
        with self.assertRaises(TypeError):
            TooMany(row=1)
        with self.assertRaises(TypeError):
            NoText(many=1)

    def test_the_field_lives_in_a_copy(self):
        self.assertEqual(pickle.loads(pickle.dumps(TooMany(7))).many, 7)
        self.assertIsNone(copy.copy(NoText(None)).row)

    def test_one_is_not_caught_as_another(self):
        with self.assertRaises(TooMany) as caught:
            try:
                raise TooMany(5)
            except (errors.NoWeb, NoText):
                self.fail("caught as another one")
        self.assertEqual(caught.exception.many, 5)
