import inspect
import unittest

from helper import by_names, fields_of
from wearplan import errors

FIELDS = {
    "NoPart": ("at",),
    "NoWorks": ("at",),
    "NoStands": (),
    "NoRounds": (),
    "NoPlan": ("at",),
    "Shut": ("round_number",),
    "Falls": ("round_number", "part_number"),
    "NoneHolds": (),
    "TooGreat": ("most",),
    "NoPaper": (),
    "NoText": ("row",),
    "NotTold": (),
}


class ErrorsTest(unittest.TestCase):
    def test_just_these_classes(self):
        told = [name for name, thing in vars(errors).items() if inspect.isclass(thing)]
        self.assertEqual(sorted(told), sorted([*FIELDS, "WearError"]))

    def test_wear_error_is_below_value_error(self):
        self.assertEqual(errors.WearError.__bases__, (ValueError,))

    def test_each_is_next_to_wear_error(self):
        for name in FIELDS:
            with self.subTest(name):
                self.assertEqual(getattr(errors, name).__bases__, (errors.WearError,))
                self.assertTrue(issubclass(getattr(errors, name), ValueError))

    def test_none_is_below_another(self):
        for name in FIELDS:
            for other in FIELDS:
                if name != other:
                    with self.subTest(name=name, other=other):
                        self.assertFalse(issubclass(getattr(errors, name), getattr(errors, other)))

    def test_fields_by_place_and_by_name(self):
        for name, fields in FIELDS.items():
            for start in (-1, 0, 3, 47, 10 ** 30):
                values = {field: start + k for k, field in enumerate(fields)}
                made = getattr(errors, name)
                with self.subTest(name=name, start=start):
                    self.assertEqual(fields_of(made(*values.values())), values)
                    for error in by_names(made, **values):
                        self.assertEqual(fields_of(error), values)

    def test_each_is_raised_and_taken(self):
        for name, fields in FIELDS.items():
            made = getattr(errors, name)
            for above in (made, errors.WearError, ValueError):
                with self.subTest(name=name, above=above), self.assertRaises(above) as caught:
                    raise made(*range(len(fields)))
                self.assertIs(type(caught.exception), made)
                self.assertEqual(fields_of(caught.exception), dict(zip(fields, range(len(fields)))))


if __name__ == "__main__":
    unittest.main()
