"""The interface of soothcheck.errors."""

import unittest

from soothcheck import errors

BASES = {
    "SoothError": ValueError,
    "BadKind": errors.SoothError,
    "BadProgram": errors.SoothError,
    "NoName": errors.BadProgram,
    "TwiceTold": errors.BadProgram,
    "BadCall": errors.SoothError,
    "BadText": errors.SoothError,
    "Refused": errors.SoothError,
}


class Classes(unittest.TestCase):

    def test_each_has_just_its_base(self):
        for name, base in BASES.items():
            with self.subTest(name=name):
                self.assertEqual(getattr(errors, name).__bases__, (base,))
                self.assertEqual(getattr(errors, name).__module__, "soothcheck.errors")

    def test_each_is_raised_with_a_text_and_caught_as_a_refusal(self):
        for name in BASES:
            if name != "Refused":
                with self.subTest(name=name):
                    with self.assertRaises(errors.SoothError):
                        raise getattr(errors, name)("why")


class RefusedValues(unittest.TestCase):

    FOUND = (("letter", "A"),)
    DUE = (("some", "row"),)

    def look_at(self, refused, value, standing):
        self.assertEqual(refused.name, "f")
        self.assertIs(refused.found, self.FOUND)
        self.assertIs(refused.due, self.DUE)
        self.assertIs(refused.value, value)
        self.assertIs(refused.standing, standing)

    def test_it_has_what_it_is_called_with(self):
        value = [1]
        standing = {"A": [value]}
        self.look_at(errors.Refused("f", self.FOUND, self.DUE, value, standing), value, standing)
        self.look_at(
            errors.Refused(name="f", found=self.FOUND, due=self.DUE, value=value, standing=standing),
            value, standing)
        self.assertEqual((value, standing), ([1], {"A": [[1]]}))

    def test_it_has_them_where_they_are_empty(self):
        refused = errors.Refused("f", (("text",),), (), "", {})
        self.assertEqual((refused.due, refused.value, refused.standing), ((), "", {}))

    def test_it_is_raised_and_caught_with_them(self):
        with self.assertRaises(errors.SoothError) as caught:
            raise errors.Refused("f", self.FOUND, self.DUE, 1, {"A": [1]})
        self.assertEqual(caught.exception.name, "f")
        self.assertEqual(caught.exception.value, 1)

    def test_it_takes_five(self):
        with self.assertRaises(TypeError):
            errors.Refused("f", self.FOUND, self.DUE, 1)


if __name__ == "__main__":
    unittest.main()
