"""The refusals: [2] and the interface of chartscribe/errors.py."""

import unittest

from chartscribe import errors
from chartscribe.errors import ChartError

FIELDS = {
    "NoTable": ("row",),
    "NoText": ("row",),
    "NoSize": ("size",),
    "Below": ("row", "series"),
    "NoChange": ("at",),
    "NoName": ("name",),
}
PLAIN = ("NoFraction", "NoNumber", "NoSheet", "NoRow")
GIVEN = {"row": 3, "size": 41, "series": "apples", "at": 7, "name": "pears"}


def class_of(name):
    return getattr(errors, name)


class TestClasses(unittest.TestCase):
    def test_chart_error_stands_under_value_error(self):
        self.assertEqual(ChartError.__bases__, (ValueError,))

    def test_each_other_class_stands_directly_under_chart_error(self):
        for name in [*FIELDS, *PLAIN]:
            with self.subTest(name):
                self.assertEqual(class_of(name).__bases__, (ChartError,))

    def test_no_class_stands_under_another_one(self):
        classes = [class_of(name) for name in [*FIELDS, *PLAIN]]
        for one in classes:
            under = [other for other in classes if issubclass(one, other)]
            self.assertEqual(under, [one])


class TestMade(unittest.TestCase):
    def test_classes_without_fields_are_made_with_one_text(self):
        for name in ["ChartError", *PLAIN]:
            with self.subTest(name):
                made = class_of(name)("why it was refused")
                self.assertEqual(str(made), "why it was refused")
                self.assertEqual(made.args, ("why it was refused",))

    def test_fields_are_given_in_order_and_borne(self):
        for name, fields in FIELDS.items():
            with self.subTest(name):
                made = class_of(name)(*[GIVEN[field] for field in fields])
                self.assertEqual(vars(made), {field: GIVEN[field] for field in fields})

    def test_fields_are_given_by_name_and_borne(self):
        for name, fields in FIELDS.items():
            with self.subTest(name):
                given = {field: GIVEN[field] for field in fields}
                self.assertEqual(vars(class_of(name)(**given)), given)

    def test_each_field_must_be_given(self):
        for name in FIELDS:
            with self.subTest(name):
                with self.assertRaises(TypeError):
                    class_of(name)()

    def test_fields_of_two_errors_are_their_own(self):
        one, other = errors.Below("a", "b"), errors.Below("c", "d")
        self.assertEqual((one.row, one.series), ("a", "b"))
        self.assertEqual((other.row, other.series), ("c", "d"))

    def test_edges_of_the_fields(self):
        self.assertEqual(errors.NoTable(-1).row, -1)
        self.assertEqual(errors.NoText(0).row, 0)
        self.assertEqual(errors.NoChange(0).at, 0)
        self.assertEqual(errors.NoName("").name, "")

    def test_a_size_may_be_however_great(self):
        size = 10 ** 9000
        made = errors.NoSize(size)
        self.assertEqual(made.size, size)
        self.assertIsInstance(str(made), str)


class TestCaught(unittest.TestCase):
    def test_each_is_caught_as_chart_error_and_as_value_error(self):
        for name in [*FIELDS, *PLAIN]:
            given = [GIVEN[field] for field in FIELDS.get(name, ())] or ["why"]
            for caught in (class_of(name), ChartError, ValueError):
                with self.subTest(name, caught=caught.__name__):
                    with self.assertRaises(caught):
                        raise class_of(name)(*given)


if __name__ == "__main__":
    unittest.main()
