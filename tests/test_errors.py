"""The interface, beamtender/errors.py: one class for each refusal."""

import unittest

from beamtender import errors

NAMES = (
    "BadText", "BadBeam", "BadStanding", "NoWeight", "NoPlace", "SamePlace", "NoRoom", "TipsInHand", "TipsBehind",
    "StartPast", "GoalPast", "NoWay", "NothingBack", "PlayFull",
)


class Errors(unittest.TestCase):
    def test_any_refusal_is_a_value_error(self):
        self.assertTrue(issubclass(errors.BeamError, ValueError))

    def test_each_class_is_under_beam_error(self):
        for name in NAMES:
            with self.subTest(name):
                error = getattr(errors, name)
                self.assertTrue(issubclass(error, errors.BeamError))
                self.assertEqual(error.__name__, name)
                self.assertIsNot(error, errors.BeamError)

    def test_no_class_is_under_another_one(self):
        for one in NAMES:
            for other in NAMES:
                if one != other:
                    with self.subTest(one=one, other=other):
                        self.assertFalse(issubclass(getattr(errors, one), getattr(errors, other)))


if __name__ == "__main__":
    unittest.main()
