import unittest

from helper import ODD
from rowsback import errors

FIELDS = {
    "BadRow": "error", "BadPoint": "given", "BadText": "place", "TooWide": None, "TooLong": None,
    "NotStraight": None, "NotRound": None, "NoStep": "number", "NoInput": "given", "NoEnd": "given",
    "NoName": "given", "BadMoves": "error", "BadPlan": "error", "TooGreat": "limit", "Unfit": None, "Busy": None,
    "Full": None, "NothingDone": None, "NothingUndone": None, "NoVersion": "given", "Changed": "name",
    "Rejected": "index", "BadBatch": None,
}


class ErrorsTest(unittest.TestCase):

    def test_there_are_just_these_errors(self):
        told = [name for name in dir(errors) if isinstance(getattr(errors, name), type)]
        self.assertEqual(sorted(told), sorted(list(FIELDS) + ["RowError"]))

    def test_row_error_stands_under_value_error(self):
        self.assertEqual(errors.RowError.__bases__, (ValueError,))

    def test_each_error_stands_directly_under_row_error(self):
        for name in FIELDS:
            self.assertEqual(getattr(errors, name).__bases__, (errors.RowError,), name)

    def test_fields_are_kept_by_place_and_by_name(self):
        for name, field in FIELDS.items():
            made = getattr(errors, name)
            if field is None:
                self.assertEqual(vars(made()), {})
                continue
            for value in ODD:
                self.assertIs(getattr(made(value), field), value)
                self.assertIs(getattr(made(**{field: value}), field), value)

    def test_a_field_is_asked_for(self):
        for name, field in FIELDS.items():
            if field is not None:
                with self.assertRaises(TypeError):
                    getattr(errors, name)()

    def test_an_error_is_caught_as_row_error_alone(self):
        with self.assertRaises(errors.RowError):
            raise errors.Rejected(3)
        for name in FIELDS:
            for other in FIELDS:
                if name != other:
                    self.assertFalse(issubclass(getattr(errors, name), getattr(errors, other)))


if __name__ == "__main__":
    unittest.main()
