import random
import unittest

from helpers import every_presentation, odd_values, plain_overlaps, plainly_collected, raised, some_presentation, unchanged
from plain import larger_groups, small_groups
from polychains.build import abelian, cyclic, direct, heisenberg, metacyclic, symmetric, wreath
from polychains.checker import takes_complement, takes_conjugate, takes_consistent, takes_hall, takes_member
from polychains.complement import complement
from polychains.errors import Malformed, Refused
from polychains.group import Group
from polychains.hall import hall
from polychains.papers import complement_paper, conjugate_paper, consistency_paper, hall_paper, member_paper
from polychains.subgroup import Subgroup, generated, normal_closure, trivial, whole


class Papers(unittest.TestCase):
    def test_first_overlap(self):
        chooser = random.Random(1)
        made = [*every_presentation((2, 3)), *every_presentation((2, 2)), *every_presentation(())]
        made += [some_presentation(primes, chooser) for primes in ((2, 2, 2), (3, 2, 3), (2, 5, 2, 3)) for _ in range(40)]
        later = 0
        for presentation in made:
            failing = [word for word, one, two in plain_overlaps(presentation)
                       if plainly_collected(presentation, one) != plainly_collected(presentation, two)]
            paper = unchanged(consistency_paper, presentation)
            self.assertEqual(paper, ("overlap", failing[0]) if failing else ("consistent",))
            self.assertIs(takes_consistent(presentation, paper), True)
            later += len(failing) > 1
        self.assertGreater(later, 20)

    def test_member_words(self):
        for plain in [*small_groups(), *larger_groups()]:
            chooser = random.Random(2)
            for many in (0, 1, 2, 3):
                items = [chooser.choice(plain.rows) for _ in range(many)]
                inside = plain.closing(items)
                for x in plain.rows:
                    kind, told = unchanged(member_paper, plain.group, items, x)
                    self.assertEqual(kind, "word" if x in inside else "sequence")
                    self.assertIs(takes_member(plain.group, tuple(items), x, (kind, told)), True)
                    if kind == "word":
                        self.assertEqual(plain.times(*[items[k - 1] if k > 0 else plain.inverses[items[-k - 1]] for k in told]), x)
                    else:
                        self.assertEqual(plain.closing(told), inside)

    def test_large_groups(self):
        for made in (cyclic(1024), abelian((2,) * 10), abelian((4,) * 5), direct(symmetric(4), symmetric(4)), heisenberg(7),
                     metacyclic(31, 30, 3), wreath(cyclic(2), 7), cyclic(961)):
            group = Group(made)
            chooser = random.Random(3)
            self.assertEqual(consistency_paper(made), ("consistent",))
            for _ in range(3):
                x, y = [tuple(chooser.randrange(p) for p in group.primes) for _ in range(2)]
                self.assertIs(takes_member(group, (x,), y, member_paper(group, (x,), y)), True)
                back = group.inverse(x)
                self.assertIs(takes_member(group, [x], back, member_paper(group, [x], back)), True)
                self.assertIs(takes_conjugate(group, x, y, conjugate_paper(group, x, y)), True)
                z = group.conjugated(x, y)
                self.assertIs(takes_conjugate(group, x, z, conjugate_paper(group, x, z)), True)
            for primes in ((2,), (3,), (7,), (2, 3), (3, 5, 31), ()):
                self.assertIs(takes_hall(group, primes, hall_paper(group, primes)), True)

    def test_complement_paper_raises_as_complement(self):
        seen = []
        for plain in small_groups():
            group = plain.group
            values = [Subgroup(group, plain.canonical(members)) for members in plain.subgroups()] + odd_values()
            values += [whole(Group(cyclic(11))), trivial(Group(cyclic(11))), group, ()]
            for n in values:
                try:
                    found = complement(group, n)
                except Malformed:
                    raised(Malformed, complement_paper, group, n)
                    seen.append("malformed")
                except Refused as fault:
                    self.assertEqual(raised(Refused, complement_paper, group, n).reason, fault.reason)
                    seen.append(fault.reason)
                else:
                    paper = complement_paper(group, n)
                    self.assertEqual(paper[0], "combination" if found is None else "complement")
                    self.assertIs(takes_complement(group, n, paper), True)
                    seen.append(paper[0])
        for word in ("malformed", "normal", "abelian", "combination", "complement"):
            self.assertGreater(seen.count(word), 5)

    def test_hall_paper_raises_as_hall(self):
        for made in (cyclic(1), symmetric(3), abelian((3, 2))):
            group = Group(made)
            for value in (*odd_values(), (2, 4), [2, True], (37,), "2", (2, "3")):
                try:
                    u = hall(group, value)
                except Malformed:
                    raised(Malformed, hall_paper, group, value)
                else:
                    self.assertEqual(hall_paper(group, value)[1].__class__, tuple)
                    self.assertEqual(generated(group, hall_paper(group, value)[1]).order, u.order)
                    self.assertIs(takes_hall(group, value, hall_paper(group, value)), True)

    def test_known_papers(self):
        group = Group(symmetric(4))
        four = normal_closure(group, [(0, 0, 1, 0)])
        self.assertEqual(complement_paper(group, four)[0], "complement")
        self.assertEqual(complement_paper(Group(cyclic(4)), generated(Group(cyclic(4)), [(0, 1)])), ("combination", (1,)))
        self.assertEqual(member_paper(group, (), (0, 0, 0, 0)), ("word", ()))
        self.assertEqual(member_paper(group, [], (0, 0, 0, 1)), ("sequence", ()))
        one = Group(cyclic(1))
        self.assertEqual((member_paper(one, (), ()), hall_paper(one, (2,)), conjugate_paper(one, (), ())),
                         (("word", ()), ("hall", ()), ("by", ())))
        self.assertEqual(complement_paper(one, trivial(one)), ("complement", ()))
        self.assertEqual(consistency_paper(cyclic(1)), ("consistent",))


if __name__ == "__main__":
    unittest.main()
