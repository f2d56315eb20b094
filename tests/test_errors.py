import unittest

from allstitches import errors

NAMES = ["BadPiece", "BadRow", "BadWord", "BadSize", "BadSizes", "BadLine", "BadRounds", "NotOut", "Never", "NoPart",
         "NotWritten", "TooLong"]


class TestErrors(unittest.TestCase):
    def test_all_are_direct_subclasses(self):
        self.assertEqual(errors.StitchError.__bases__, (ValueError,))
        for name in NAMES:
            self.assertEqual(getattr(errors, name).__bases__, (errors.StitchError,), name)
            self.assertEqual(getattr(errors, name).__module__, "allstitches.errors")

    def test_attributes(self):
        self.assertEqual(errors.BadPiece(3).part, 3)
        self.assertIsNone(errors.BadPiece(None).part)
        self.assertEqual(errors.NotWritten(4).part, 4)
        told = errors.NotOut(7, "few")
        self.assertEqual((told.row, told.why), (7, "few"))
        # Numbers that Python does not write.
        self.assertEqual(errors.NotOut(10 ** 5000, "few").row, 10 ** 5000)

    def test_they_are_caught_by_their_names(self):
        for error in (errors.BadPiece(0), errors.NotOut(0, "cast"), errors.TooLong("much"), errors.Never()):
            with self.assertRaises(type(error)):
                raise error
            with self.assertRaises(errors.StitchError):
                raise error


if __name__ == "__main__":
    unittest.main()
