"""The errors: their base classes and attributes."""

import unittest

from carryclaim import errors

ATTRIBUTES = {
    "SyntaxProblem": ("line", "column"),
    "ProgramProblem": ("where", "reason"),
    "PaperProblem": ("line",),
    "EditProblem": ("reason",),
    "Clash": ("reason",),
    "NoVersion": ("version",),
    "JournalProblem": ("position",),
    "Full": (),
    "NotMergeable": (),
    "NotEdited": (),
}

VALUES = {
    "SyntaxProblem": (3, 14),
    "ProgramProblem": ("main", "unknown"),
    "PaperProblem": (7,),
    "EditProblem": ("path",),
    "Clash": ("place",),
    "NoVersion": (61,),
    "JournalProblem": (0,),
    "Full": (),
    "NotMergeable": (),
    "NotEdited": (),
}


class ErrorClasses(unittest.TestCase):
    def test_the_base_class_is_a_value_error(self):
        self.assertEqual(errors.ClaimError.__bases__, (ValueError,))
        with self.assertRaises(ValueError):
            raise errors.ClaimError()

    def test_each_class_stands_directly_below_the_base_class(self):
        for name in ATTRIBUTES:
            with self.subTest(name):
                self.assertEqual(getattr(errors, name).__bases__, (errors.ClaimError,))

    def test_each_class_is_defined_in_the_file(self):
        for name in ATTRIBUTES:
            with self.subTest(name):
                self.assertEqual(getattr(errors, name).__module__, "carryclaim.errors")
                self.assertEqual(getattr(errors, name).__name__, name)

    def test_no_error_is_caught_as_another_one(self):
        for name, values in VALUES.items():
            error = getattr(errors, name)(*values)
            for other in ATTRIBUTES:
                with self.subTest(name, other=other):
                    self.assertEqual(isinstance(error, getattr(errors, other)), name == other)

    def test_attributes_are_set_by_position(self):
        for name, attributes in ATTRIBUTES.items():
            error = getattr(errors, name)(*VALUES[name])
            with self.subTest(name):
                found = tuple(getattr(error, attribute) for attribute in attributes)
                self.assertEqual(found, VALUES[name])
                self.assertEqual(sorted(vars(error)), sorted(attributes))

    def test_attributes_belong_to_the_object(self):
        first = errors.SyntaxProblem(1, 2)
        second = errors.SyntaxProblem(3, 4)
        self.assertEqual((first.line, first.column), (1, 2))
        self.assertEqual((second.line, second.column), (3, 4))

    def test_as_many_arguments_as_attributes(self):
        for name, values in VALUES.items():
            if values:
                with self.subTest(name), self.assertRaises(TypeError):
                    getattr(errors, name)(*values[1:])
                with self.subTest(name), self.assertRaises(TypeError):
                    getattr(errors, name)(*values, 1)

    def test_each_error_can_be_raised_and_caught_as_a_claim_error(self):
        for name, values in VALUES.items():
            with self.subTest(name), self.assertRaises(errors.ClaimError) as caught:
                raise getattr(errors, name)(*values)
            self.assertIsInstance(str(caught.exception), str)

    def test_empty_and_plain_values(self):
        self.assertEqual(errors.ProgramProblem("", "main").where, "")
        self.assertEqual(errors.NoVersion(0).version, 0)
        self.assertEqual(errors.NoVersion(-1).version, -1)


if __name__ == "__main__":
    unittest.main()
