"""The examples that the document shows, for the chapters that have landed."""

import unittest


class Examples(unittest.TestCase):
    def test_linear(self):
        from polychains.linear import kernel, span
        self.assertEqual(span(((2, 1, 0), (1, 1, 1)), 3, 3), ((1, 0, 2), (0, 1, 2)))
        self.assertEqual(kernel(((1, 1, 1),), 3, 2), ((1, 0, 1), (0, 1, 1)))

    def test_collect(self):
        from polychains.collect import collected, is_consistent
        from polychains.pres import Presentation
        triangle = Presentation((2, 3), ((0, 0), (0, 0)), (((0, 2),), ()))
        self.assertEqual(collected(triangle, (2, 1)), (1, 2))
        self.assertIs(is_consistent(triangle), True)

    def test_text(self):
        from polychains.pres import Presentation, read_presentation
        triangle = Presentation((2, 3), ((0, 0), (0, 0)), (((0, 2),), ()))
        self.assertEqual(str(triangle), "2 3: 0 0; 0 2; 0 0")
        self.assertEqual(read_presentation("2 3: 0 0; 0 2; 0 0"), triangle)
        self.assertEqual(str(read_presentation(":")), ":")


if __name__ == "__main__":
    unittest.main()
