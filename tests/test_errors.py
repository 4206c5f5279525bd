"""[4] and the interface: the refusals."""

import unittest

from likematch import errors

PLAIN = ("BadTerm", "BadPattern", "BadTerms", "TooGreat", "TooMany", "NotAlike", "NoDeed", "BadTable", "BadRule",
         "BadRules", "NoCover", "NotReached")
FIELDS = {"NoHole": ("hole", "?x"), "NoLog": ("at", 7), "NoText": ("at", 0)}


class Refusals(unittest.TestCase):
    def test_match_error_is_straight_under_value_error(self):
        self.assertEqual(errors.MatchError.__bases__, (ValueError,))

    def test_all_fifteen_are_straight_under_match_error(self):
        names = PLAIN + tuple(FIELDS)
        self.assertEqual(len(names), 15)
        for name in names:
            with self.subTest(name):
                refusal = getattr(errors, name)
                self.assertEqual(refusal.__bases__, (errors.MatchError,))
                self.assertEqual(refusal.__name__, name)
                self.assertEqual(refusal.__module__, "likematch.errors")

    def test_there_are_no_others(self):
        found = [name for name, thing in vars(errors).items()
                 if isinstance(thing, type) and issubclass(thing, Exception)]
        self.assertEqual(sorted(found), sorted(PLAIN + tuple(FIELDS) + ("MatchError",)))

    def test_each_bears_its_name_in_small_letters(self):
        for name in PLAIN:
            self.assertEqual(getattr(errors, name)("why").word, name.lower())
        for name, (_, worth) in FIELDS.items():
            self.assertEqual(getattr(errors, name)(worth).word, name.lower())

    def test_plain_ones_are_raised_and_caught(self):
        for name in PLAIN:
            with self.subTest(name), self.assertRaises(errors.MatchError) as caught:
                raise getattr(errors, name)("why")
            self.assertEqual(str(caught.exception), "why")

    def test_fields_by_place_and_by_name(self):
        for name, (field, worth) in FIELDS.items():
            with self.subTest(name):
                refusal = getattr(errors, name)
                self.assertEqual(getattr(refusal(worth), field), worth)
                self.assertEqual(getattr(refusal(**{field: worth}), field), worth)
                self.assertIsInstance(str(refusal(worth)), str)


if __name__ == "__main__":
    unittest.main()
