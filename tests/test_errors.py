import unittest

from rootrooms import errors
from rootrooms.errors import Full, NoMark, NoName, NotFew, RoomError, Standing
from tests.things import NO_WHOLES, VERY_LONG

WITH_FIELDS = {"NotFew": "heap", "NoName": "name", "Standing": "name", "Full": "most", "NoMark": "number"}
OF_A_TEXT = [
    "NoPrime", "NoNumber", "NoMatrix", "NoFit", "NoNet", "NoRoom", "NoHeap", "NoEnd", "NoRoot", "NoBook",
    "NoMap", "NoTie", "NoCounts", "NoPaper", "TooGreat", "TooMany",
]


class ErrorsTest(unittest.TestCase):

    def test_room_error_is_a_value_error(self):
        self.assertEqual(RoomError.__bases__, (ValueError,))
        self.assertEqual(RoomError.__module__, "rootrooms.errors")

    def test_every_class_stands_right_under_room_error(self):
        for name in [*WITH_FIELDS, *OF_A_TEXT]:
            with self.subTest(name=name):
                self.assertEqual(getattr(errors, name).__bases__, (RoomError,))
                self.assertEqual(getattr(errors, name).__module__, "rootrooms.errors")

    def test_the_fields(self):
        for name, field in WITH_FIELDS.items():
            with self.subTest(name=name):
                error = getattr(errors, name)((0, 1, 2))
                self.assertEqual(getattr(error, field), (0, 1, 2))
                self.assertIsInstance(str(error), str)

    def test_the_fields_by_what_they_are_for(self):
        self.assertEqual(NotFew((1, 1)).heap, (1, 1))
        self.assertEqual(NoName("Abc").name, "Abc")
        self.assertEqual(Standing("abc").name, "abc")
        self.assertEqual(Full(12).most, 12)
        self.assertEqual(NoMark(7).number, 7)

    def test_the_fields_of_anything(self):
        for thing in NO_WHOLES + [VERY_LONG, -VERY_LONG]:
            for name, field in WITH_FIELDS.items():
                error = getattr(errors, name)(thing)
                self.assertIs(getattr(error, field), thing)
                self.assertIsInstance(str(error), str)

    def test_the_others_are_made_of_a_text(self):
        for name in OF_A_TEXT:
            with self.subTest(name=name):
                self.assertEqual(str(getattr(errors, name)("a text")), "a text")
        self.assertEqual(str(RoomError("a text")), "a text")

    def test_they_are_caught_each_by_its_own_class(self):
        for name in [*WITH_FIELDS, *OF_A_TEXT]:
            own = getattr(errors, name)
            for other in [*WITH_FIELDS, *OF_A_TEXT]:
                self.assertEqual(issubclass(own, getattr(errors, other)), name == other)
            with self.assertRaises(ValueError):
                raise own("a text")


if __name__ == "__main__":
    unittest.main()
