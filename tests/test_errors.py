import unittest

from nearby import errors

PLAIN = ["InvalidNetwork", "InvalidBounds", "InvalidInput", "InvalidBall", "InvalidLift", "TooLarge"]


class ErrorsTest(unittest.TestCase):
    def test_base(self):
        self.assertEqual(errors.NearbyError.__bases__, (ValueError,))

    def test_each_is_a_direct_subclass_alone(self):
        for name in PLAIN + ["InvalidText"]:
            self.assertEqual(getattr(errors, name).__bases__, (errors.NearbyError,), name)

    def test_plain_errors_can_be_raised(self):
        for name in PLAIN:
            with self.assertRaises(errors.NearbyError):
                raise getattr(errors, name)("why")

    def test_invalid_text_has_its_line(self):
        self.assertEqual(errors.InvalidText(12).line, 12)
        with self.assertRaises(ValueError) as caught:
            raise errors.InvalidText(3)
        self.assertEqual(caught.exception.line, 3)


if __name__ == "__main__":
    unittest.main()
