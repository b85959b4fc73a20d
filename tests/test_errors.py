"""c12: the errors, their bases and their fields."""

import unittest

from loancheck import errors

FIELDS = {
    "BadText": ("token", "reason"),
    "BadRule": ("function", "statement", "reason"),
    "BadRun": ("step",),
    "BadPaper": ("node",),
    "BadEdit": ("reason",),
    "BadJournal": ("place",),
    "BadArgument": ("reason",),
}


class Errors(unittest.TestCase):
    def test_base_is_a_value_error(self):
        self.assertEqual(errors.LoanError.__bases__, (ValueError,))

    def test_each_has_the_base_and_no_other_one(self):
        for name in FIELDS:
            self.assertEqual(getattr(errors, name).__bases__, (errors.LoanError,), name)

    def test_none_of_the_others_is_a_base_of_another(self):
        for one in FIELDS:
            for other in FIELDS:
                is_base = issubclass(getattr(errors, other), getattr(errors, one))
                self.assertEqual(is_base, one == other, (one, other))

    def test_fields_are_set_by_place(self):
        for name, fields in FIELDS.items():
            values = [f"value {field}" for field in fields]
            error = getattr(errors, name)(*values)
            self.assertEqual([getattr(error, field) for field in fields], values, name)

    def test_fields_are_set_by_name(self):
        for name, fields in FIELDS.items():
            values = {field: f"value {field}" for field in fields}
            error = getattr(errors, name)(**values)
            self.assertEqual({field: getattr(error, field) for field in fields}, values, name)

    def test_values_stay_as_they_are(self):
        bad = errors.BadRule(1, None, "too many parameters")
        self.assertEqual((bad.function, bad.statement, bad.reason), (1, None, "too many parameters"))
        self.assertEqual(errors.BadPaper((2, None)).node, (2, None))
        self.assertEqual(errors.BadRun(0).step, 0)
        self.assertEqual(errors.BadText(0, "text too long").token, 0)

    def test_each_is_raised_and_caught_by_its_base(self):
        for name, fields in FIELDS.items():
            with self.assertRaises(errors.LoanError):
                raise getattr(errors, name)(*fields)
            self.assertIsInstance(str(getattr(errors, name)(*fields)), str)

    def test_defined_in_their_file(self):
        for name in ["LoanError"] + list(FIELDS):
            self.assertEqual(getattr(errors, name).__module__, "loancheck.errors", name)


if __name__ == "__main__":
    unittest.main()
