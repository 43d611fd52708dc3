import unittest

from wokenlives import errors

FIELDS = {
    "BadText": ("row", "column"),
    "BadSign": ("row", "column"),
    "BadForm": ("row", "column"),
    "TooDeep": ("row", "column"),
    "BadName": ("name", "row", "column"),
    "DoubleName": ("name", "row", "column"),
    "UnknownName": ("name", "row", "column"),
    "WrongKind": ("name", "row", "column"),
    "WrongCount": ("name", "row", "column"),
    "RingOfClasses": ("name", "row", "column"),
    "TooLarge": ("name", "row", "column"),
    "BadDeed": ("kind", "deed"),
    "BadBook": ("number",),
    "BadRows": ("row",),
    "NotDue": ("life",),
    "Quiet": (),
    "NoCourse": ("place",),
    "TooLong": ("most",),
    "Crossed": ("first", "second"),
    "NoPlace": ("place",),
    "BadWorld": ("row",),
    "Unsound": ("rule",),
    "BadRecord": ("row",),
    "BadRow": ("text",),
    "NoThing": ("name",),
}

UNDER_TEXT = ("BadSign", "BadForm", "TooDeep")
UNDER_NAME = ("DoubleName", "UnknownName", "WrongKind", "WrongCount", "RingOfClasses", "TooLarge")


class ErrorsTest(unittest.TestCase):
    def test_base(self):
        self.assertEqual(errors.LivesError.__bases__, (ValueError,))

    def test_bases(self):
        for name in FIELDS:
            base = errors.LivesError
            if name in UNDER_TEXT:
                base = errors.BadText
            if name in UNDER_NAME:
                base = errors.BadName
            self.assertEqual(getattr(errors, name).__bases__, (base,), name)

    def test_fields_in_order(self):
        for name, fields in FIELDS.items():
            values = [f"value{at}" for at in range(len(fields))]
            error = getattr(errors, name)(*values)
            self.assertEqual([getattr(error, field) for field in fields], values, name)
            by_keyword = getattr(errors, name)(**dict(zip(fields, values)))
            self.assertEqual([getattr(by_keyword, field) for field in fields], values, name)
            self.assertIsInstance(str(error), str)

    def test_no_other_errors_are_missing(self):
        for name in FIELDS:
            self.assertTrue(hasattr(errors, name), name)

    def test_a_long_place_can_be_told(self):
        self.assertEqual(errors.NoPlace(10 ** 400).place, 10 ** 400)


if __name__ == "__main__":
    unittest.main()
