"""The examples that the document shows."""

import unittest


class Examples(unittest.TestCase):
    def test_linear(self):
        from polychains.linear import kernel, span
        self.assertEqual(span(((2, 1, 0), (1, 1, 1)), 3, 3), ((1, 0, 2), (0, 1, 2)))
        self.assertEqual(kernel(((1, 1, 1),), 3, 2), ((1, 0, 1), (0, 1, 1)))

    def test_collect(self):
        from polychains.collect import collected, is_consistent
        from polychains.pres import Presentation
        triangle = Presentation((2, 3), ((0, 0), (0, 0)), (((0, 2),), ()))
        self.assertEqual(collected(triangle, (2, 1)), (1, 2))
        self.assertIs(is_consistent(triangle), True)

    def test_text(self):
        from polychains.pres import Presentation, read_presentation
        triangle = Presentation((2, 3), ((0, 0), (0, 0)), (((0, 2),), ()))
        self.assertEqual(str(triangle), "2 3: 0 0; 0 2; 0 0")
        self.assertEqual(read_presentation("2 3: 0 0; 0 2; 0 0"), triangle)
        self.assertEqual(str(read_presentation(":")), ":")

    def test_quotient(self):
        from polychains.build import symmetric
        from polychains.group import Group
        from polychains.quotient import Quotient
        from polychains.subgroup import generated, normal_closure
        group = Group(symmetric(4))
        self.assertEqual(normal_closure(group, [(0, 0, 1, 0)]).rows, ((0, 0, 1, 0), (0, 0, 0, 1)))
        self.assertEqual(Quotient(group, normal_closure(group, [(0, 1, 0, 0)])).group.primes, (2,))
        self.assertEqual(generated(group, [(0, 0, 1, 0)]).rows, ((0, 0, 1, 0),))

    def test_classes(self):
        from polychains.build import symmetric
        from polychains.classes import conjugacy_classes
        from polychains.group import Group
        from polychains.series import chief_factors
        self.assertEqual(chief_factors(Group(symmetric(4))), ((2, 1), (2, 2), (3, 1)))
        self.assertEqual([size for x, size in conjugacy_classes(Group(symmetric(3)))], [1, 2, 3])

    def test_maps(self):
        from polychains.build import cyclic, symmetric
        from polychains.group import Group
        from polychains.maps import homs
        self.assertEqual(homs(Group(symmetric(3)), Group(cyclic(2))), (((0,), (0,)), ((1,), (0,))))

    def test_complement(self):
        from polychains.build import cyclic, symmetric
        from polychains.complement import complement, complements
        from polychains.group import Group
        from polychains.subgroup import generated
        four = Group(cyclic(4))
        self.assertIs(complement(four, generated(four, [(0, 1)])) is None, True)
        group = Group(symmetric(3))
        self.assertEqual(len(complements(group, generated(group, [(0, 1)]))), 3)

    def test_extension(self):
        from polychains.build import cyclic
        from polychains.extension import class_count, extension, trivial_module
        from polychains.group import Group
        two = trivial_module(Group(cyclic(2)), 2, 1)
        self.assertEqual(class_count(two), 2)
        self.assertEqual(str(extension(two, (1,))), "2 2: 0 1; 0 1; 0 0")

    def test_console(self):
        from polychains.console import Console
        console = Console()
        self.assertEqual(console.enter("let a = 2 3: 0 0; 0 2; 0 0").text, "2 3: 0 0; 0 2; 0 0")
        self.assertEqual(console.enter("conjugate a 0,1 0,2").text, "yes")
        self.assertEqual(console.enter("hall a 3").text, "3")


if __name__ == "__main__":
    unittest.main()
