import itertools
import random
import unittest
from unittest import mock

from helpers import odd_values, shown, unchanged
from plain import plain_of, small_groups
from polychains import replies
from polychains.build import abelian, cyclic, dihedral, direct, metacyclic, symmetric, wreath
from polychains.collect import overlaps
from polychains.errors import Malformed
from polychains.papers import complement_paper, conjugate_paper, consistency_paper, hall_paper, member_paper
from polychains.pres import Presentation, read_presentation
from polychains.replies import Reply, defined, is_right, reply_to
from polychains.subgroup import normal_closure
from worksheets import TEXTS, is_accepted, plainly_read, row_text, some_line, spoilt_lines, told

BROKEN = read_presentation("2 3: 0 1; 0 2; 0 0")
NAMES = {"a": read_presentation(TEXTS[2]), "b": read_presentation(TEXTS[4]), "c": read_presentation(TEXTS[6]),
         "d": BROKEN, "t": cyclic(1), "abcdefgh": symmetric(4), "let": dihedral(4), "q": cyclic(4), "big": cyclic(31 * 31)}


def fields(reply):
    return shown((reply.kind, reply.text, reply.data))


def error(text):
    return Reply("error", text)


class Replies(unittest.TestCase):
    def same(self, names, line):
        expected, definition = told(names, line)
        found = unchanged(reply_to, names, line)
        self.assertIsInstance(found, Reply)
        self.assertEqual(fields(found), shown(expected), line)
        self.assertEqual(shown(unchanged(defined, names, line)), shown(definition), line)
        self.assertEqual(found, reply_to(names, line))
        self.assertIs(unchanged(is_right, names, (line, found)), True)

    def test_fields_and_default_values(self):
        made = Reply("done")
        self.assertEqual(fields(made), shown(("done", "", ())))
        self.assertEqual(fields(Reply("number", "12")), shown(("number", "12", ())))
        self.assertEqual(fields(Reply("by", data=("by", (1,)))), shown(("by", "", ("by", (1,)))))
        self.assertEqual(fields(Reply(kind="x", text="y", data=(1,))), shown(("x", "y", (1,))))

    def test_equality(self):
        made = Reply("by", "yes", ("by", (1, 0)))
        self.assertIs(made == Reply("by", "yes", ("by", (1, 0))), True)
        self.assertIs(made != Reply("by", "yes", ("by", (1, 0))), False)
        for other in (Reply("b", "yes", ("by", (1, 0))), Reply("by", "no", ("by", (1, 0))), Reply("by", "yes", ("by", (1, 1))),
                      Reply("by", "yes"), Reply("by", "yes", ["by", (1, 0)]), Reply("by", "yes", ("by", [1, 0])),
                      Reply("by", "yes", ("by", (True, 0))), Reply("by", "yes", ("by", (1, False))), Reply("by", "yes", ("by", (1, 0), ())),
                      Reply("by", "yes", ("by",)), ("by", "yes", ("by", (1, 0))), *odd_values()):
            self.assertIs(made == other, False)
            self.assertIs(other == made, False)
            self.assertIs(made != other, True)
        for one, two in itertools.combinations([value for value in odd_values() if not isinstance(value, ValueError)], 2):
            same = shown(one) == shown(two)
            if not same and one.__class__.__name__ != "Console" and not isinstance(one, list):
                self.assertIs(Reply("x", "y", one) == Reply("x", "y", two), False, (one, two))
                self.assertIs(Reply("x", one) == Reply("x", two), False)
                self.assertIs(Reply(one) == Reply(two), False)
        for one, two in zip(odd_values(), odd_values()):
            if not isinstance(one, ValueError) and "Console" not in repr(one) and "Quotient" not in repr(one):
                if "Fault" not in repr(one) and "Refused" not in repr(one):
                    self.assertIs(Reply("x", "y", one) == Reply("x", "y", two), True, one)

    def test_equality_of_deep_values(self):
        one, two, three = (), (), (0,)
        for _ in range(20000):
            one, two, three = (one,), (two,), (three,)
        self.assertIs(Reply("x", "", one) == Reply("x", "", two), True)
        self.assertIs(Reply("x", "", one) == Reply("x", "", three), False)
        self.assertIs(Reply("x", "", (one, 1)) == Reply("x", "", (two,)), False)
        self.assertIs(Reply("x", "", (one, 1)) == Reply("x", "", (two, 1)), True)

    def test_equality_of_lists(self):
        for one, two, same in (([1], [1], True), ([1], [True], False), ([0], [False], False), ([[1]], [[True]], False), (([1],), ([True],), False),
                               ([], [], True), ([], (), False), ([1], (1,), False), ([(1,)], [[1]], False), ([1, 2], [1], False),
                               ([(1, [0])], [(1, [0])], True), (1, True, False), (False, 0, False), (True, True, True)):
            self.assertIs(Reply("x", "", one) == Reply("x", "", two), same)
            self.assertIs(Reply("x", one) == Reply("x", two), same)
            self.assertIs(Reply(two) == Reply(one), same)

    def test_each_command(self):
        for line in ("let x = 2: 0", "let a = 2 3: 0 1; 0 2; 0 0", "let q = :", "direct x a b", "direct a a a", "direct x t t",
                     "direct x d a", "direct x a d", "direct x big a", "quotient x a 0,1", "quotient x a 0,0", "quotient x a 1,0",
                     "quotient x t -", "quotient x abcdefgh 0,0,1,0", "show a", "show d", "show t", "show let", "consistent a",
                     "consistent d", "consistent t", "times a 1,1 1,2", "times t - -", "order a 1,2", "order t -", "order abcdefgh 1,0,0,1",
                     "derived abcdefgh", "derived t", "lower let", "lower abcdefgh", "lower t", "invariants let", "invariants t",
                     "invariants q", "chief abcdefgh", "chief t", "chief let", "classes abcdefgh", "classes t", "homs a b", "homs t a",
                     "homs a t", "homs big a", "homs let let", "member a 0,1 0,2", "member a 0,1 1,0", "member t - -", "complement a 0,1",
                     "complement a 1,0", "complement q 0,1", "complement t -", "complement abcdefgh 0,0,1,1", "hall a 2", "hall a 3,2",
                     "hall a -", "hall t 2", "hall t -", "hall abcdefgh 5", "conjugate a 0,1 0,2", "conjugate a 0,1 1,0",
                     "conjugate t - -", "", "# let a = :", "    ", "nothing", "let x = 2"):
            self.same(NAMES, line)

    def test_known_replies(self):
        for line, kind, text, data in (
                ("show a", "presentation", "2 3: 0 0; 0 2; 0 0", ()), ("show t", "presentation", ":", ()),
                ("let n = 2: 0", "presentation", "2: 0", ()), ("quotient n a 0,1", "presentation", "2: 0", ()),
                ("quotient n a 1,0", "presentation", ":", ()), ("times a 1,0 0,1", "element", "1,1", ()),
                ("times a 0,1 1,0", "element", "1,2", ()), ("times t - -", "element", "-", ()), ("order a 0,1", "number", "3", ()),
                ("derived abcdefgh", "orders", "24 12 4 1", ()), ("lower abcdefgh", "orders", "24 12", ()), ("derived t", "orders", "1", ()),
                ("lower t", "orders", "1", ()), ("invariants t", "orders", "", ()), ("invariants let", "orders", "2 2", ()),
                ("chief abcdefgh", "factors", "2^1 2^2 3^1", ()), ("chief t", "factors", "", ()), ("classes abcdefgh", "number", "5", ()),
                ("homs a q", "number", "2", ()), ("consistent a", "consistent", "yes", ("consistent",)),
                ("consistent d", "consistent", "no", ("overlap", (1, 1, 1))), ("member a 0,1 1,0", "member", "no", ("sequence", ((0, 1),))),
                ("member a 1,0 1,0", "member", "yes", ("word", (1,))), ("complement q 0,1", "complement", "no", ("combination", (1,))),
                ("complement a 0,0", "complement", "yes", ("complement", ((1, 0), (0, 1)))), ("hall a 3", "hall", "3", ("hall", ((0, 1),))),
                ("hall t -", "hall", "1", ("hall", ())), ("conjugate a 0,1 1,0", "conjugate", "no", ("apart", ((0, 1), (0, 2)))),
                ("", "done", "", ()), ("#", "done", "", ())):
            self.assertEqual(fields(reply_to(NAMES, line)), shown((kind, text, data)), line)

    def test_errors_in_their_order(self):
        for line, text in (
                ("times z 0 100", "text"), ("times a 5,5", "text"), ("direct x z", "text"), ("member d 9 x", "text"),
                ("times z 9 9", "refused name"), ("direct x d z", "refused name"), ("direct x z d", "refused name"), ("homs z d", "refused name"),
                ("homs d z", "refused name"), ("quotient x z 9", "refused name"), ("show z", "refused name"), ("consistent z", "refused name"),
                ("hall z 2", "refused name"), ("derived x", "refused name"), ("complement z -", "refused name"), ("direct x x x", "refused name"),
                ("times d 9 9", "refused consistent"), ("direct x d a", "refused consistent"), ("direct x a d", "refused consistent"),
                ("direct x big d", "refused consistent"), ("homs a d", "refused consistent"), ("homs big d", "refused consistent"),
                ("homs d a", "refused consistent"), ("quotient x d 9", "refused consistent"), ("order d 0,0", "refused consistent"),
                ("derived d", "refused consistent"), ("lower d", "refused consistent"), ("invariants d", "refused consistent"),
                ("chief d", "refused consistent"), ("classes d", "refused consistent"), ("member d 0,0 0,0", "refused consistent"),
                ("complement d 0,0", "refused consistent"), ("hall d 2", "refused consistent"), ("conjugate d 0,0 0,0", "refused consistent"),
                ("times a 0,0 2,0", "refused element"), ("times a 2,0 0,0", "refused element"), ("times a 0,3 0,0", "refused element"),
                ("times a - 0,0", "refused element"), ("times a 0,0 0,0,0", "refused element"), ("times t - 0", "refused element"),
                ("order a 0", "refused element"), ("order t 0", "refused element"), ("quotient x a 2,0", "refused element"),
                ("member a 0,0 9,9", "refused element"), ("member a 9,9 0,0", "refused element"), ("complement abcdefgh 1,0", "refused element"),
                ("conjugate a 0,1 99", "refused element"), ("conjugate a 0 0,1", "refused element"),
                ("direct x big a", "refused large"), ("direct x big big", "refused large"), ("homs big a", "refused large"),
                ("homs a big", "refused large"), ("complement a 1,0", "refused abelian"), ("complement q 1,0", "refused abelian"),
                ("let x = 31 31 2: 0 0 0; 0 1 0; 0 0 1; 0 0 0; 0 0 1; 0 0 0", "text")):
            self.assertEqual(fields(reply_to(NAMES, line)), shown(("error", text, ())), line)
            self.assertIsNone(defined(NAMES, line))
            self.assertIs(is_right(NAMES, (line, error(text))), True)
            self.assertIs(is_right(NAMES, (line, error(text + "s"))), False)
        names = {"e": abelian((2,) * 7)}
        self.assertEqual(fields(reply_to(names, "homs e e")), shown(("error", "refused many", ())))
        self.assertEqual(fields(reply_to({}, "homs e e")), shown(("error", "refused name", ())))

    def test_malformed_values_within(self):
        """No line makes a function raise Malformed, so one is made to do so."""
        def fails(*args):
            raise Malformed("some value")

        for name, line in (("homs", "homs a a"), ("derived_series", "derived a"), ("direct", "direct x a a"), ("member_paper", "member a 0,1 0,1"),
                           ("Quotient", "quotient x a 0,1"), ("read_line", "show a")):
            with mock.patch.object(replies, name, fails):
                self.assertEqual(fields(reply_to(NAMES, line)), shown(("error", "malformed", ())))
                self.assertIs(is_right(NAMES, (line, error("malformed"))), True)
                if name != "read_line":
                    self.assertIsNone(defined(NAMES, line))

    def test_all_commands_of_small_groups(self):
        chooser = random.Random(1)
        for plain in small_groups():
            names = {"a": plain.group.presentation, "b": chooser.choice(small_groups()).group.presentation}
            for word in ("show", "consistent", "derived", "lower", "invariants", "chief", "classes"):
                self.same(names, f"{word} a")
            for _ in range(6):
                x, y = [row_text(chooser.choice(plain.rows)) for _ in range(2)]
                for line in (f"times a {x} {y}", f"order a {x}", f"member a {x} {y}", f"complement a {x}", f"conjugate a {x} {y}",
                             f"quotient c a {x}"):
                    self.same(names, line)
            for line in ("homs a b", "direct c a b", "hall a -", "hall a 2", "hall a 3", "hall a 2,3", "hall a 5,31,2", "hall a 7"):
                self.same(names, line)

    def test_some_lines(self):
        chooser = random.Random(2)
        names = {**NAMES, "d": BROKEN}
        for _ in range(300):
            line = some_line(chooser)
            self.same(names, line)
            self.same({}, line)
            for other in spoilt_lines(line, chooser, 1):
                self.same(names, other)

    def test_values_that_are_no_lines(self):
        for value in (*odd_values(), "\n", "show a\n", " " * 2001, ["show a"], ("show a",), "\u00e4"):
            if value == "":
                continue
            self.assertEqual(fields(unchanged(reply_to, NAMES, value)), shown(("error", "text", ())))
            self.assertIsNone(unchanged(defined, NAMES, value))
            self.assertIs(is_right(NAMES, (value, error("text"))), True)
            self.assertIs(is_right(NAMES, (value, error("malformed"))), False)
            self.assertIs(is_right(NAMES, (value, Reply("done"))), False)

    def test_defined(self):
        for line, name, text in (("let x = 2: 0", "x", "2: 0"), ("let a = :", "a", ":"), ("let d = 2 3: 0 1; 0 2; 0 0", "d", "2 3: 0 1; 0 2; 0 0"),
                                 ("direct x t a", "x", "2 3: 0 0; 0 2; 0 0"), ("direct a b t", "a", "2 2: 0 1; 0 1; 0 0"),
                                 ("quotient a a 0,1", "a", "2: 0")):
            found = unchanged(defined, NAMES, line)
            self.assertEqual(shown(found), shown((name, read_presentation(text))))
            self.assertIsInstance(found[1], Presentation)
        for line in ("show a", "consistent a", "# let a = :", "", "let a =", "let a = 2", "direct x a z", "direct x a d", "quotient x a 9",
                     "direct x big a", "hall a 2", "times a 0,0 0,0"):
            self.assertIsNone(defined(NAMES, line))
        self.assertEqual(sorted(NAMES), sorted(["a", "b", "c", "d", "t", "abcdefgh", "let", "q", "big"]))

    def test_larger_groups(self):
        names = {"a": metacyclic(31, 30, 3), "b": wreath(cyclic(2), 5), "c": direct(symmetric(4), symmetric(4))}
        for line, text in (("classes a", "31"), ("chief b", "2^1 2^4 5^1"), ("derived c", "576 144 16 1"), ("hall a 2,3,5", "30"),
                           ("hall c 2", "64"), ("consistent b", "yes"), ("lower b", "160 16"), ("invariants c", "2 2"),
                           ("homs c b", "refused large"), ("direct d a b", "refused large"), ("classes c", "25")):
            self.assertEqual(reply_to(names, line).text, text)
            self.assertIs(is_right(names, (line, reply_to(names, line))), True)


class RightEntries(unittest.TestCase):
    def check(self, names, line, paper):
        """An entry with this paper is right exactly if the checker accepts it, with the text that belongs to it."""
        command = plainly_read(line)
        taken = is_accepted(names, command, paper)
        texts = ("1", "2", "3", "4", "6", "8", "") if command[0] == "hall" else ("yes", "no", "Yes", "")
        for text in texts:
            if command[0] == "hall":
                order = 1
                for row in paper[1] if taken else ():
                    order *= names["a"].primes[next(at for at, item in enumerate(row) if item)]
                expected = taken and text == str(order)
            else:
                expected = taken and text == ("yes" if paper[0] in ("consistent", "word", "complement", "by") else "no")
            found = is_right(names, (line, Reply(command[0], text, paper)))
            self.assertIs(found, expected, (line, text, paper))
            if expected:
                for kind in ("error", "number", "done", "hall" if command[0] != "hall" else "by", "", None, command[0].upper()):
                    self.assertIs(is_right(names, (line, Reply(kind, text, paper))), False)
        return taken

    def test_other_papers(self):
        chooser = random.Random(3)
        taken = 0
        for plain in [plain_of(made) for made in (cyclic(1), cyclic(4), symmetric(3), abelian((2, 2)), dihedral(4), abelian((3, 2)))]:
            names = {"a": plain.group.presentation, "x": BROKEN}
            subgroups = [plain.canonical(members) for members in plain.subgroups()]
            for _ in range(4):
                x, y = chooser.choice(plain.rows), chooser.choice(plain.rows)
                papers = [("word", word) for length in range(4) for word in itertools.product((1, -1), repeat=length)]
                papers += [("sequence", rows) for rows in subgroups]
                taken += sum(self.check(names, f"member a {row_text(x)} {row_text(y)}", paper) for paper in papers)
                papers = [("by", z) for z in plain.rows]
                papers += [("apart", tuple(rows)) for many in (0, 1, 2, 3) for rows in itertools.combinations(plain.rows, many)][:50]
                taken += sum(self.check(names, f"conjugate a {row_text(x)} {row_text(y)}", paper) for paper in papers)
                line = f"complement a {row_text(x)}"
                if reply_to(names, line).kind == "complement":
                    papers = [("complement", rows) for rows in subgroups] + [("combination", row) for row in (
                        (), (0,), (1,), (0, 0), (1, 0), (0, 0, 0), (1, 0, 0), (0, 1, 0), (0, 0, 1), (1, 1, 1))]
                    taken += sum(self.check(names, line, paper) for paper in papers)
            for primes in ("-", "2", "3", "2,3"):
                taken += sum(self.check(names, f"hall a {primes}", ("hall", rows)) for rows in subgroups)
            papers = [("consistent",), ("overlap", (1, 1, 1)), ("overlap", (2, 1, 1)), ("overlap", ())]
            taken += sum(self.check({"a": made}, "consistent a", paper) for paper in papers for made in names.values())
        self.assertGreater(taken, 250)

    def test_all_overlaps(self):
        made = read_presentation("2 3 2: 0 1 0; 0 0 1; 0 0 1; 0 0 1; 0 0 0; 0 0 0")
        words = [word for word, _, _ in overlaps(made)]
        taken = [word for word in words if self.check({"a": made}, "consistent a", ("overlap", word))]
        self.assertGreater(len(taken), 2)
        self.assertLess(len(taken), len(words))
        self.assertEqual(reply_to({"a": made}, "consistent a").data, ("overlap", taken[0]))

    def test_papers_that_are_only_equal_to_accepted_ones(self):
        names = {"a": symmetric(3)}
        for line, text, paper in (("conjugate a 0,1 0,2", "yes", ("by", (True, 0))), ("conjugate a 0,1 0,2", "yes", ("by", [1, 0])),
                                  ("conjugate a 0,1 0,2", "yes", ["by", (1, 0)]), ("member a 0,1 0,1", "yes", ("word", (True,))),
                                  ("hall a 2", "2", ("hall", ((True, False),))), ("hall a 3", "3", ("hall", [(0, 1)])),
                                  ("consistent a", "yes", ["consistent"]), ("complement a 0,1", "yes", ("complement", ((True, 0),)))):
            self.assertIs(is_right(names, (line, Reply(line.split()[0], text, paper))), False)

    def test_lines_without_papers(self):
        names = {"a": symmetric(3), "d": BROKEN}
        for line in ("let b = 2: 0", "direct b a a", "quotient b a 0,1", "show a", "show d", "times a 1,0 0,1", "order a 0,1", "derived a",
                     "lower a", "invariants a", "chief a", "classes a", "homs a a", "", "#", "nothing", "times d 0,0 0,0", "order z 1",
                     "member a 0,0 9", "conjugate z 1 1", "hall d 2", "consistent z", "complement a 1,0"):
            right = reply_to(names, line)
            self.assertIs(is_right(names, (line, right)), True)
            self.assertIs(is_right(names, (line, Reply(right.kind, right.text, ()))), True)
            for other in (Reply(right.kind, right.text + " ", ()), Reply(right.kind, right.text, (0,)), Reply(right.kind, right.text, []),
                          Reply(right.kind + "s", right.text, ()), Reply(right.kind, None, ()), Reply(right.kind, right.text, None),
                          Reply("done" if right.kind != "done" else "error", right.text, ()), Reply(right.kind, right.text, ("by", (0, 0))),
                          Reply("consistent", "yes", ("consistent",)), Reply(right.kind, "7", ())):
                self.assertIs(unchanged(is_right, names, (line, other)), False)

    def test_replies_to_lines_with_papers_that_raise(self):
        names = {"a": symmetric(3), "d": BROKEN}
        for line, paper in (("complement a 1,0", ("complement", ())), ("complement a 1,0", ("combination", ())), ("hall d 2", ("hall", ())),
                            ("conjugate d 0,0 0,0", ("by", (0, 0))), ("member d 0,0 0,0", ("word", ())), ("hall z 2", ("hall", ()))):
            for text in ("yes", "no", "1", "6"):
                self.assertIs(is_right(names, (line, Reply(line.split()[0], text, paper))), False)

    def test_other_values(self):
        names = {"a": symmetric(3)}
        good = Reply("done")
        self.assertIs(is_right(names, ("", good)), True)
        for value in (*odd_values(), ["", good], ("", good, good), ("",), (good, ""), (good,), good, ("", "done"), ("", None), ("", ("done", "", ())),
                      ("", "done", "", ()), (("", good),), [("", good)], (good, good), ()):
            if not (isinstance(value, tuple) and len(value) == 2 and value[1] == good and value[0] == ""):
                self.assertIs(unchanged(is_right, names, value), False)
        for odd in odd_values():
            for line in ("", "show a", "hall a 2", "member a 0,0 0,0", "consistent a", "conjugate a 0,1 0,1", "complement a 0,1", None):
                self.assertIs(is_right(names, (line, odd)), line == "" and isinstance(odd, Reply) and odd == good)
                self.assertIs(is_right(names, (line, Reply("hall", "2", odd))), False)
                self.assertIs(is_right(names, (line, Reply(odd, odd, odd))), False)
                if line:
                    self.assertIs(is_right(names, (line, Reply(line.split()[0], odd, odd))), False)
                    self.assertIs(is_right(names, (line, Reply(line.split()[0], "yes", odd))), False)

    def test_papers_of_the_functions(self):
        chooser = random.Random(4)
        for plain in small_groups():
            group = plain.group
            names = {"a": group.presentation}
            for _ in range(5):
                x, y = chooser.choice(plain.rows), chooser.choice(plain.rows)
                for line, make in ((f"member a {row_text(x)} {row_text(y)}", lambda: member_paper(group, (x,), y)),
                                   (f"conjugate a {row_text(x)} {row_text(y)}", lambda: conjugate_paper(group, x, y)),
                                   ("consistent a", lambda: consistency_paper(group.presentation)),
                                   ("hall a 2,5", lambda: hall_paper(group, (2, 5))),
                                   (f"complement a {row_text(x)}", lambda: complement_paper(group, normal_closure(group, (x,))))):
                    right = reply_to(names, line)
                    if right.kind != "error":
                        self.assertEqual(shown(right.data), shown(make()))
                        self.assertTrue(self.check(names, line, right.data))

    def test_names_stay_as_they_are(self):
        names = {"a": symmetric(3)}
        for line in ("let a = :", "direct b a a", "quotient a a 0,1"):
            reply_to(names, line)
            defined(names, line)
            is_right(names, (line, reply_to(names, line)))
        self.assertEqual((list(names), names["a"]), (["a"], symmetric(3)))


if __name__ == "__main__":
    unittest.main()
