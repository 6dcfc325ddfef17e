"""The classes of errors, as the interface lists them."""

import inspect
import unittest

from deltawires import errors

STRAIGHT_UNDER = {
    "WireError": ValueError,
    "NoValue": errors.WireError,
    "NoNumber": errors.WireError,
    "NoTerm": errors.WireError,
    "NoText": errors.WireError,
    "NoRow": errors.WireError,
    "Clash": errors.WireError,
    "NoName": LookupError,
    "Unending": RuntimeError,
    "Busy": RuntimeError,
    "TooMany": ArithmeticError,
}
WITHOUT_FIELDS = ("WireError", "NoValue", "NoNumber", "NoTerm", "NoText", "NoRow", "Busy")


class ErrorClasses(unittest.TestCase):
    def test_all_are_there_and_no_other(self):
        found = [name for name, _ in inspect.getmembers(errors, inspect.isclass)]
        self.assertEqual(sorted(found), sorted(STRAIGHT_UNDER))

    def test_each_stands_straight_under_its_class(self):
        for name, above in STRAIGHT_UNDER.items():
            with self.subTest(name):
                self.assertEqual(getattr(errors, name).__bases__, (above,))
                self.assertEqual(getattr(errors, name).__module__, "deltawires.errors")

    def test_none_stands_under_another_but_so(self):
        for name, above in STRAIGHT_UNDER.items():
            for other in STRAIGHT_UNDER:
                with self.subTest(name=name, other=other):
                    under = issubclass(getattr(errors, name), getattr(errors, other))
                    self.assertEqual(under, name == other or above.__name__ == other)

    def test_those_without_a_field_are_made_of_a_text(self):
        for name in WITHOUT_FIELDS:
            with self.subTest(name):
                made = getattr(errors, name)("why it is so")
                self.assertIsInstance(made, getattr(errors, name))
                with self.assertRaises(getattr(errors, name)):
                    raise made


class Fields(unittest.TestCase):
    def test_clash(self):
        clash = errors.Clash("row", "signals")
        self.assertEqual((clash.kind, clash.who), ("row", "signals"))

    def test_no_name(self):
        self.assertEqual(errors.NoName("clk").who, "clk")
        self.assertEqual(errors.NoName("").who, "")

    def test_unending(self):
        self.assertEqual(errors.Unending(40).deltas, 40)
        self.assertEqual(errors.Unending(0).deltas, 0)

    def test_too_many(self):
        self.assertEqual(errors.TooMany(400).limit, 400)

    def test_a_number_too_great_to_be_written_is_a_field_all_the_same(self):
        great = 10 ** 6000
        self.assertEqual(errors.TooMany(great).limit, great)
        self.assertEqual(errors.TooMany(-great).limit, -great)
        self.assertEqual(errors.Unending(great).deltas, great)

    def test_each_object_has_its_own_fields(self):
        first = errors.Clash("row", "0")
        second = errors.Clash("name", "a")
        self.assertEqual((first.kind, first.who, second.kind, second.who), ("row", "0", "name", "a"))


if __name__ == "__main__":
    unittest.main()
