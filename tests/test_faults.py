import unittest

from allstitches import faults
from allstitches.errors import StitchError

PLAIN = ["BadChart", "BadTold", "BadTable", "BadEdge", "BadCount", "NoCell", "BadGaps", "BadEdit", "NothingDone"]
TOLD = ["BadText", "NoEdit", "BadName", "NoPiece"]


class TestFaults(unittest.TestCase):
    def test_all_are_direct_subclasses(self):
        for name in PLAIN + TOLD:
            self.assertEqual(getattr(faults, name).__bases__, (StitchError,), name)
            self.assertEqual(getattr(faults, name).__module__, "allstitches.faults")

    def test_attributes(self):
        told = faults.BadText(3, 14)
        self.assertEqual((told.line, told.column), (3, 14))
        self.assertEqual(faults.NoEdit("swap").kind, "swap")
        self.assertEqual(faults.BadName("Back").name, "Back")
        self.assertEqual(faults.BadName(10 ** 5000).name, 10 ** 5000)
        self.assertEqual(faults.NoPiece("sleeve").name, "sleeve")

    def test_they_are_caught_by_their_names(self):
        for error in [getattr(faults, name)() for name in PLAIN] + [faults.BadText(1, 1), faults.NoPiece("back")]:
            for kind in (type(error), StitchError, ValueError):
                with self.assertRaises(kind):
                    raise error


if __name__ == "__main__":
    unittest.main()
