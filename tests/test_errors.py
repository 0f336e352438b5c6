import unittest

from purseborder import errors

WITH_FIELD = {
    "NoPlace": "place",
    "NoPair": "pair",
    "NoWay": "way",
    "NoChange": "times",
    "NoCount": "told",
    "NoName": "name",
    "NoRow": "row",
}
WITHOUT_FIELD = ("NoFloor", "NoMore")
THINGS = (None, True, -1, 10 ** 5000, "x", "", [1], (), (1, 2), {"a": 1}, 1.5, b"x", object(), len, int)


def refusals():
    return [getattr(errors, name) for name in list(WITH_FIELD) + list(WITHOUT_FIELD)]


class Errors(unittest.TestCase):
    def test_any_refusal_is_a_value_error(self):
        self.assertEqual(errors.PurseError.__bases__, (ValueError,))
        for refusal in refusals():
            self.assertTrue(issubclass(refusal, errors.PurseError), refusal)
            self.assertTrue(issubclass(refusal, ValueError), refusal)

    def test_none_stands_under_another(self):
        for one in refusals():
            for other in refusals():
                if one is not other:
                    self.assertFalse(issubclass(one, other), (one, other))

    def test_each_has_the_thing_refused_as_its_field(self):
        for name, field in WITH_FIELD.items():
            for thing in THINGS:
                refused = getattr(errors, name)(thing)
                self.assertIs(getattr(refused, field), thing)
                self.assertEqual(vars(refused), {field: thing})

    def test_a_thing_refused_is_to_be_told(self):
        for name in WITH_FIELD:
            self.assertRaises(TypeError, getattr(errors, name))

    def test_those_without_fields(self):
        for name in WITHOUT_FIELD:
            self.assertEqual(vars(getattr(errors, name)()), {})

    def test_they_are_raised_and_taken_by_name(self):
        for name, field in WITH_FIELD.items():
            with self.assertRaises(errors.PurseError) as taken:
                raise getattr(errors, name)((3, 4))
            self.assertEqual(getattr(taken.exception, field), (3, 4))
        for name in WITHOUT_FIELD:
            with self.assertRaises(errors.PurseError):
                raise getattr(errors, name)()


if __name__ == "__main__":
    unittest.main()
