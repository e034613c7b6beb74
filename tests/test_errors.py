import unittest

from neverwait import errors

NAMES = ["NoNet", "NoShape", "NoTie", "NoText", "NoHouse", "NoRanks", "NoStand", "NoBerth", "NoHanding", "NoPlan",
         "TooMany", "NoRow"]


class Refusals(unittest.TestCase):

    def test_all_twelve_stand_straight_under_beat_error(self):
        self.assertEqual(len(NAMES), 12)
        self.assertEqual(errors.BeatError.__bases__, (ValueError,))
        for name in NAMES:
            self.assertEqual(getattr(errors, name).__bases__, (errors.BeatError,), name)

    def test_none_is_one_of_the_others(self):
        for name in NAMES:
            refusal = getattr(errors, name)()
            self.assertIsInstance(refusal, errors.BeatError)
            self.assertIsInstance(refusal, ValueError)
            alike = [other for other in NAMES if isinstance(refusal, getattr(errors, other))]
            self.assertEqual(alike, [name])

    def test_made_of_nothing_and_of_a_text(self):
        for name in NAMES + ["BeatError"]:
            kind = getattr(errors, name)
            self.assertEqual(str(kind()), "")
            self.assertEqual(str(kind("why not")), "why not")
            with self.assertRaises(kind):
                raise kind("why not")


if __name__ == "__main__":
    unittest.main()
