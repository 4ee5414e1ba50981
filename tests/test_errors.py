import unittest

from oddkeep import errors

WITHOUT_FIELDS = (
    "BadSize", "BadKind", "BadNumber", "BadChance", "BadTarget", "NotEnding", "NoRun", "NotHere",
    "NoBranch", "Worse", "NotAlike", "NothingToUndo", "NothingToRedo",
)
WITH_FIELDS = {
    "BadStrategy": ("place",),
    "BadText": ("line", "column"),
    "BadMove": ("step",),
    "NotARun": ("step",),
    "NotChain": ("place",),
    "NeverSo": ("place",),
    "BadEntry": ("place",),
}


class Errors(unittest.TestCase):
    def test_the_base_class_is_a_value_error(self):
        self.assertEqual(errors.OddsError.__bases__, (ValueError,))

    def test_every_class_stands_directly_under_the_base_class(self):
        for name in (*WITHOUT_FIELDS, *WITH_FIELDS):
            with self.subTest(name=name):
                self.assertEqual(getattr(errors, name).__bases__, (errors.OddsError,))

    def test_there_are_no_other_errors(self):
        told = {name for name in vars(errors) if not name.startswith("_")}
        self.assertEqual(told, {"OddsError", *WITHOUT_FIELDS, *WITH_FIELDS})

    def test_classes_without_fields_are_made_with_no_argument(self):
        for name in WITHOUT_FIELDS:
            with self.subTest(name=name):
                error = getattr(errors, name)()
                self.assertEqual(vars(error), {})
                with self.assertRaises(errors.OddsError):
                    raise error

    def test_arguments_are_the_fields(self):
        for name, fields in WITH_FIELDS.items():
            with self.subTest(name=name):
                numbers = [7 + at for at in range(len(fields))]
                error = getattr(errors, name)(*numbers)
                self.assertEqual(vars(error), dict(zip(fields, numbers)))

    def test_arguments_have_the_names_of_the_fields(self):
        for name, fields in WITH_FIELDS.items():
            with self.subTest(name=name):
                told = {field: 3 + at for at, field in enumerate(fields)}
                self.assertEqual(vars(getattr(errors, name)(**told)), told)


if __name__ == "__main__":
    unittest.main()
