import unittest

from parlourday import errors

WITHOUT_FIELD = [
    "BadWeb", "BadMove", "BadFraction", "BadCount", "BadGame", "BadWay", "BadOwner", "BadSetup", "BadSeats",
    "NotDeaf", "BadWhat", "BadTubs", "BadOpenings", "BadRule", "BadBill", "BadView", "BadBoards", "BadComers",
    "BadPlace", "BadRules", "NothingToUndo", "Full", "TooMany", "BadCommand",
]
WITH_PLACE = ["BadWalk", "BadRow", "BadAsking", "BadText"]
ALL = WITHOUT_FIELD + WITH_PLACE


class Errors(unittest.TestCase):
    def test_the_first_one_stands_under_value_error(self):
        self.assertEqual(errors.ParlourError.__bases__, (ValueError,))

    def test_each_stands_directly_under_the_first_one(self):
        for name in ALL:
            with self.subTest(name):
                self.assertEqual(getattr(errors, name).__bases__, (errors.ParlourError,))
                self.assertEqual(getattr(errors, name).__module__, "parlourday.errors")

    def test_there_are_no_others(self):
        found = [
            name for name, thing in vars(errors).items()
            if isinstance(thing, type) and issubclass(thing, Exception) and name != "ParlourError"
        ]
        self.assertEqual(sorted(found), sorted(ALL))

    def test_none_is_caught_as_another_one(self):
        for name in ALL:
            for other in ALL:
                if name != other:
                    self.assertFalse(issubclass(getattr(errors, name), getattr(errors, other)), (name, other))

    def test_those_without_a_field_take_one_text(self):
        for name in WITHOUT_FIELD:
            with self.subTest(name), self.assertRaises(errors.ParlourError) as caught:
                raise getattr(errors, name)("why")
            self.assertIs(caught.exception.__class__, getattr(errors, name))
            self.assertEqual(str(caught.exception), "why")

    def test_a_place_is_a_field_by_position_and_by_name(self):
        for name in WITH_PLACE:
            with self.subTest(name):
                self.assertEqual(getattr(errors, name)(7).place, 7)
                self.assertEqual(getattr(errors, name)(place=-1).place, -1)
                self.assertIsInstance(getattr(errors, name)(0), ValueError)
                with self.assertRaises(TypeError):
                    getattr(errors, name)()


if __name__ == "__main__":
    unittest.main()
