import unittest

from helpers import raised
from polychains.errors import Fault, Malformed, NoText, Refused
from polychains.whole import inverse


class Errors(unittest.TestCase):
    def test_classes(self):
        self.assertEqual(Fault.__bases__, (ValueError,))
        for kind in (Malformed, Refused, NoText):
            self.assertTrue(issubclass(kind, Fault))
            for other in (Malformed, Refused, NoText):
                self.assertEqual(issubclass(kind, other), kind is other)

    def test_refused_has_its_reason(self):
        self.assertEqual(Refused("large").reason, "large")
        self.assertEqual(Refused(reason="abc").reason, "abc")
        self.assertEqual(raised(Refused, inverse, 0, 2).reason, "inverse")

    def test_no_text_has_its_place(self):
        for at in (0, 7, 10 ** 30):
            self.assertEqual(NoText(at).at, at)
        self.assertEqual(NoText(at=3).at, 3)

    def test_all_are_caught_as_faults_and_as_value_errors(self):
        for fault in (Fault("x"), Malformed("x"), Refused("x"), NoText(1)):
            for kind in (Fault, ValueError):
                with self.assertRaises(kind):
                    raise fault

    def test_they_have_a_text(self):
        for fault in (Fault("x"), Malformed("x"), Refused("x"), NoText(1)):
            self.assertIsInstance(str(fault), str)


if __name__ == "__main__":
    unittest.main()
