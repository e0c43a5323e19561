import itertools
import random
import re
import unittest

from helpers import is_plain_integer, odd_values, raised, shown, unchanged
from polychains.console import Console
from polychains.errors import Malformed, NoText
from polychains.log import first_wrong, read_data, read_log, write_data, write_log
from polychains.replies import Reply, reply_to
from worksheets import told, worksheet

LABEL = re.compile("[a-z]{1,12}")
NUMBER = re.compile("0|-?[1-9][0-9]*")


def is_label(value):
    return isinstance(value, str) and LABEL.fullmatch(value) is not None


def depth_of(value):
    """How deep tuples are nested in a value, without recursion."""
    depth = 0
    level = [value]
    while any(isinstance(item, tuple) for item in level):
        depth += 1
        level = [part for item in level if isinstance(item, tuple) for part in item]
    return depth


def is_plain_data(value):
    if depth_of(value) > 20:
        return False
    if isinstance(value, tuple):
        return all(is_plain_data(item) for item in value)
    return is_plain_integer(value) or is_label(value)


def plainly_written(value):
    return f"({' '.join(plainly_written(item) for item in value)})" if isinstance(value, tuple) else str(value)


def nested(depth, inside=()):
    """A tuple that is so deep, with the items inside at the bottom."""
    value = inside
    for _ in range(depth - 1):
        value = (value,)
    return value


def some_data(chooser, depth):
    kind = chooser.randrange(3 if depth else 2)
    if kind == 0:
        return chooser.choice([0, 1, -1, 7, 10, -10, 99, 2 ** 64, -2 ** 70])
    if kind == 1:
        return "".join(chooser.choice("abz") for _ in range(chooser.randrange(1, 13)))
    return tuple(some_data(chooser, depth - 1) for _ in range(chooser.randrange(4)))


GOOD = [0, 1, -1, 9, 10, -10, 1234567890, 10 ** 3999, 10 ** 4000 - 1, 1 - 10 ** 4000, -10 ** 3999, 2 ** 100, "a", "z", "by",
        "abcdefghijkl", "zzzzzzzzzzzz", (), (0,), ("a",), ((),), ((), ()), (1, "a", (2, ("b",), ())), ("word", (1, -2)), nested(20),
        nested(20, (1, 2)), nested(20, ("a", -3, 0)), (nested(19), nested(19), 5), (1,) * 500]


class Data(unittest.TestCase):
    def test_known_forms(self):
        for data, text in ((0, "0"), (-5, "-5"), (1234, "1234"), ("by", "by"), ((), "()"), ((1,), "(1)"), ((1, -2, "a"), "(1 -2 a)"),
                           ((((),),), "((()))"), (("hall", ((0, 1),)), "(hall ((0 1)))"), (((), ()), "(() ())"), ((1, ()), "(1 ())"),
                           (((), 1), "(() 1)"), (10 ** 3999, "1" + "0" * 3999), (-10 ** 3999, "-1" + "0" * 3999)):
            self.assertEqual(unchanged(write_data, data), text)
            self.assertEqual(shown(unchanged(read_data, text)), shown(data))

    def test_there_and_back(self):
        chooser = random.Random(1)
        for data in GOOD + [some_data(chooser, 5) for _ in range(500)]:
            text = write_data(data)
            self.assertEqual(text, plainly_written(data))
            self.assertEqual(shown(read_data(text)), shown(data))

    def test_write_other_values(self):
        bad = [True, False, None, [], [1], "", "abcdefghijklm", "A", "aB", "a1", "1", "a b", "a-b", "-", "\u00e4", "a\n", " a", nested(21),
               nested(21, (1,)), nested(22), nested(100), Reply("done"), b"a", "abcdefghijkl\n"]
        deep = ()
        for _ in range(50000):
            deep = (deep,)
        bad.append(deep)
        for value in bad:
            raised(Malformed, write_data, value)
            for outer in ((value,), (1, value), (value, "a"), ((value,), 2), (("a", (value,)),)):
                raised(Malformed, write_data, outer)
        raised(Malformed, write_data, (1, nested(20)))
        raised(Malformed, write_data, (nested(20), 1))
        for value in odd_values():
            if is_plain_data(value):
                self.assertEqual(write_data(value), plainly_written(value))
            else:
                raised(Malformed, unchanged, write_data, value)

    def test_read_other_texts(self):
        for text in ("", " ", "-", "--1", "-0", "00", "01", "-01", "007", "+1", "1 ", " 1", "1 2", "1a", "a1", "A", "aB", "abcdefghijklm", "a b",
                     "a ", " a", "a-b", "(", ")", "(1", "1)", "(1))", "((1)", "( 1)", "(1 )", "( )", "(1  2)", "(1,2)", "(1, 2)", "() ()", "()()",
                     "(()())", "(1(2))", "((1)2)", "(a(b))", "[1]", "(1]", "1.0", "1e5", "1_0", "0x1", "True", "None", "'a'", "\"a\"", "(-)", "(-0)",
                     "(00)", "(01)", "(+1)", "(A)", "(abcdefghijklm)", " ()", "() ", "(\n)", "1\n", "\n1", "(1\n2)", "(1\t2)", "\u0661", "(\u00e4)",
                     "\uff11", "a\u00e4", "(1 2", "(1 2 ", "(((", ")))", "(1 2))", "() a", "(a) b", "a (b)", "-a", "a-", "1-", "1-1", "- 1",
                     plainly_written(nested(21)), plainly_written(nested(21, (1,))), plainly_written(nested(40)), "(" * 21, "(" * 100000,
                     "(" * 20, "(1 " + plainly_written(nested(20)) + ")", "()" * 3, "0" * 50, "-" + "0" * 20, "(" * 5000 + ")" * 5000):
            self.assertEqual(raised(NoText, read_data, text).at, 0, text)
        for value in (*odd_values(), b"1", ("1",), ["1"]):
            if isinstance(value, str) and (is_label(value) or NUMBER.fullmatch(value)):
                self.assertEqual(str(read_data(value)), value)
            else:
                self.assertEqual(raised(NoText, read_data, value).at, 0)

    def test_all_short_texts(self):
        """Each short text is read exactly if it is the written form of what is read."""
        forms = {plainly_written(data): data for data in self.short_data()}
        for length in range(6):
            for letters in itertools.product("()0 1-a", repeat=length):
                text = "".join(letters)
                if text in forms:
                    self.assertEqual(shown(read_data(text)), shown(forms[text]))
                else:
                    self.assertEqual(raised(NoText, read_data, text).at, 0)

    def short_data(self):
        """All data with a written form of at most 5 of the characters above."""
        def words(most):
            for length in range(1, most + 1):
                for letters in itertools.product("01-a", repeat=length):
                    word = "".join(letters)
                    if NUMBER.fullmatch(word):
                        yield int(word)
                    elif is_label(word):
                        yield word

        def data(most):
            yield from words(most)
            if most >= 2:
                for many in range((most - 1) // 2 + 1):
                    for items in itertools.product(list(data(most - 2)), repeat=many):
                        if len(plainly_written(items)) <= most:
                            yield items

        return list(data(5))

    def test_spoilt_texts(self):
        chooser = random.Random(2)
        for _ in range(3000):
            text = plainly_written(some_data(chooser, 4))
            at = chooser.randrange(len(text) + 1)
            put = chooser.choice(["", " ", "(", ")", "0", "1", "-", "a", "B", "\n", "()"])
            other = text[:at] + put + text[at + chooser.randrange(2):]
            try:
                data = read_data(other)
            except NoText as fault:
                self.assertEqual(fault.at, 0)
                # What is no written form is no such form by a description of its words and parentheses, either.
                self.assertFalse(self.is_form(other), other)
            else:
                self.assertTrue(is_plain_data(data))
                self.assertEqual(plainly_written(data), other)

    def is_form(self, text):
        """Whether a text is a written form, by putting T for the tuples without tuples, from within."""
        item = "(?:T|0|-?[1-9][0-9]*|[a-z]{1,12})"
        inner = re.compile(rf"\((?:{item}(?: {item})*)?\)")
        while inner.search(text):
            text = inner.sub("T", text)
        return re.fullmatch(item, text) is not None


ENTRIES = [("", Reply("done")), ("show a", Reply("error", "refused name")), ("anything at all", Reply("x", "", ())),
           ("> a", Reply("by", "= # >", ("by", (1, -2), (), "x"))), ("\r\t\u00e4", Reply("abcdefghijkl", "  ", (nested(19),))),
           ("# ", Reply("a", "b c  d ", ((), 0)))]


class Logs(unittest.TestCase):
    def test_known_log(self):
        entries = [("let a = 2: 0", Reply("presentation", "2: 0")), ("hall a 2", Reply("hall", "2", ("hall", ((1,),)))), ("", Reply("done"))]
        text = "> let a = 2: 0\n= presentation 2: 0\n# ()\n> hall a 2\n= hall 2\n# (hall ((1)))\n> \n= done \n# ()\n"
        self.assertEqual(unchanged(write_log, entries), text)
        self.assertEqual(shown(unchanged(read_log, text)), shown(entries))
        self.assertEqual((write_log([]), read_log("")), ("", []))
        self.assertIsInstance(read_log(""), list)

    def test_there_and_back(self):
        chooser = random.Random(3)
        for _ in range(100):
            entries = []
            for _ in range(chooser.randrange(6)):
                entries.append(chooser.choice(ENTRIES) if chooser.randrange(2) else (
                    "".join(chooser.choice(" ab>=#\r()\x0b\x0c\x1c\x85\u2028") for _ in range(chooser.randrange(9))),
                    Reply("".join(chooser.choice("ab") for _ in range(chooser.randrange(1, 13))),
                          "".join(chooser.choice(" ab>=#\r()\x0b\x0c\x1c\x85\u2028") for _ in range(chooser.randrange(9))),
                          tuple(some_data(chooser, 3) for _ in range(chooser.randrange(4))))))
            text = unchanged(write_log, entries)
            self.assertEqual(text, "".join(f"> {line}\n= {reply.kind} {reply.text}\n# {plainly_written(reply.data)}\n"
                                           for line, reply in entries))
            found = read_log(text)
            self.assertEqual(shown(found), shown(entries))
            self.assertTrue(all(isinstance(entry, tuple) and isinstance(entry[1], Reply) for entry in found))

    def test_write_other_items(self):
        good = Reply("done", "x", (1,))
        bad = [("a\n", good), ("\n", good), (1, good), (None, good), (b"a", good), (["a"], good), (("a",), good), ["a", good], ("a", good, good),
               ("a",), (good, "a"), ("a", "done"), ("a", ("done", "x", (1,))), ("a", None), "a", "", None, 1, (), good, [],
               ("a", Reply("")), ("a", Reply("Done")), ("a", Reply("do ne")), ("a", Reply("abcdefghijklm")), ("a", Reply(1)), ("a", Reply(None)),
               ("a", Reply("done\n")), ("a", Reply(("done",))), ("a", Reply("done1")), ("a", Reply("\u00e4")), ("a", Reply(True)),
               ("a", Reply("done", "a\n")), ("a", Reply("done", "\n")), ("a", Reply("done", 1)), ("a", Reply("done", None)), ("a", Reply("done", ("x",))),
               ("a", Reply("done", True)), ("a", Reply("done", b"x")),
               ("a", Reply("done", "x", 1)), ("a", Reply("done", "x", "a")), ("a", Reply("done", "x", [])), ("a", Reply("done", "x", [1])),
               ("a", Reply("done", "x", None)), ("a", Reply("done", "x", (True,))), ("a", Reply("done", "x", ([],))), ("a", Reply("done", "x", ("A",))),
               ("a", Reply("done", "x", ("",))), ("a", Reply("done", "x", ("abcdefghijklm",))), ("a", Reply("done", "x", nested(21))),
               ("a", Reply("done", "x", (good,))), ("a", Reply("done", "x", (1, (None,)))), ("a", Reply("done", "x", 0)), ("a", Reply("done", "x", ""))]
        for item in (*bad, *odd_values()):
            for entries in ([item], [ENTRIES[0], item], [item, ENTRIES[1]], [*ENTRIES, item, *ENTRIES]):
                if isinstance(item, tuple) and len(item) == 2 and item == ("", Reply("done")):
                    continue
                raised(Malformed, write_log, entries)
        for item in (("a", Reply("done", "x", nested(20))), ("", Reply("a", "", ())), ("a", Reply("abcdefghijkl")), ("a" * 5000, good)):
            self.assertEqual(shown(read_log(write_log([item]))), shown([item]))

    def at_of(self, text):
        return raised(NoText, read_log, text).at

    def test_read_each_place(self):
        text = write_log(ENTRIES)
        rows = text.split("\n")[:-1]
        for at in range(len(rows)):
            sign = ">=#"[at % 3]
            others = ["", " ", sign, sign + "x", "x" + rows[at], " " + rows[at], sign + "\t", "\r" + rows[at], ">= "[at % 3] + "x"]
            others += [other + " a (" for other in ">=#" if other != sign] + [other + " ()" for other in ">=#" if other != sign]
            if at % 3 == 1:
                others += ["= ", "= done", "=  done x", "= Done x", "= abcdefghijklm x", "= do1 x", "= 1 x", "= \u00e4 x", "=done x", "= done\tx", "= -"]
            if at % 3 == 2:
                others += ["# ", "# 1", "# a", "# -", "# (", "# ( )", "# (1) ", "#  (1)", "# (1 )", "# ()()", "# (01)", "# (A)", "# " + plainly_written(nested(21)),
                           "#()", "# (1  2)", "# [1]", "# (abcdefghijklm)", "# (\r)", "# 0"]
            for other in others:
                for more in ("", "nothing", "\n\n"):
                    spoilt = "\n".join(rows[:at] + [other] + rows[at + 1:]) + "\n" + more
                    self.assertEqual(self.at_of(spoilt), at, (at, other))
                # An earlier line that is wrong counts, a later one does not.
                if at + 1 < len(rows):
                    self.assertEqual(self.at_of("\n".join(rows[:at] + [other] + ["?"] + rows[at + 2:]) + "\n"), at)

    def test_read_log_that_ends_early(self):
        text = write_log(ENTRIES)
        for end in range(len(text)):
            cut = text[:end]
            if end == 0 or text[:end].count("\n") % 3 == 0 and text[end - 1] == "\n":
                self.assertEqual(len(read_log(cut)), cut.count("\n") // 3)
            else:
                self.assertEqual(self.at_of(cut), cut.count("\n"), repr(cut))
        for more in ("x", " ", "> a", "> a\n", "> a\n= b c", "> a\n= b c\n", "> a\n= b c\n# ()"):
            self.assertEqual(self.at_of(text + more), (text + more).count("\n"))
        self.assertEqual(self.at_of(text + "\n"), len(ENTRIES) * 3)
        self.assertEqual(self.at_of("\n"), 0)
        self.assertEqual(self.at_of("\n" + text), 0)
        self.assertEqual(self.at_of("> a\n\n# ()\n"), 1)
        self.assertEqual(self.at_of(" "), 0)
        self.assertEqual(self.at_of("> a"), 0)

    def test_read_lines_with_other_breaks(self):
        self.assertEqual(shown(read_log("> a\r\n= b c\r\n# ()\n")), shown([("a\r", Reply("b", "c\r"))]))
        self.assertEqual(self.at_of("> a\r\n= b c\r\n# ()\r\n"), 2)
        self.assertEqual(self.at_of("> a\r= b c\r# ()\r"), 0)
        self.assertEqual(shown(read_log("> a\x0bb\n= b \u2028\n# ()\n")), shown([("a\x0bb", Reply("b", "\u2028"))]))

    def test_read_other_values(self):
        for value in (*odd_values(), b"", ["> a"], ("> a\n= b c\n# ()\n",)):
            if value != "":
                self.assertEqual(self.at_of(value), 0)

    def test_logs_of_worksheets(self):
        for seed in range(4):
            console = Console()
            for line in worksheet(seed, 60):
                console.enter(line)
            entries = list(console)
            text = write_log(entries)
            self.assertEqual(console.log(), text)
            self.assertEqual(shown(read_log(text)), shown(entries))
            self.assertEqual(first_wrong(read_log(text)), -1)


class FirstWrong(unittest.TestCase):
    def test_right_lists(self):
        self.assertEqual(unchanged(first_wrong, []), -1)
        for seed in range(4):
            names = {}
            entries = []
            for line in worksheet(seed + 10, 50):
                (kind, text, data), definition = told(names, line)
                entries.append((line, Reply(kind, text, data)))
                names.update([definition] if definition else [])
            self.assertEqual(unchanged(first_wrong, entries), -1)
            chooser = random.Random(seed)
            for at in chooser.sample(range(len(entries)), 12):
                line, reply = entries[at]
                for wrong in ((line, Reply(reply.kind, reply.text + "x", reply.data)), (line, Reply(reply.kind, reply.text, (*reply.data, 1))),
                              (line, Reply("other", reply.text, reply.data)), [line, reply], (line, None), None, reply):
                    self.assertEqual(first_wrong(entries[:at] + [wrong] + entries[at + 1:]), at)
                    self.assertEqual(first_wrong(entries[:at] + [wrong, None]), at)

    def test_definitions_of_the_lines_before(self):
        first = ("let a = 2: 0", Reply("presentation", "2: 0"))
        second = ("let a = 3: 0", Reply("presentation", "3: 0"))
        shown_first, shown_second = ("show a", Reply("presentation", "2: 0")), ("show a", Reply("presentation", "3: 0"))
        none = ("show a", Reply("error", "refused name"))
        failed = ("let a = 4: 0", Reply("error", "text"))
        for entries, at in (([none], -1), ([none, first, shown_first], -1), ([first, shown_first, second, shown_second], -1),
                            ([first, none], 1), ([shown_first], 0), ([first, second, shown_first], 2), ([first, failed, shown_first], -1),
                            ([first, shown_second], 1), ([failed, none], -1), ([first, second, shown_second, shown_first, none], 3),
                            ([("direct b a a", Reply("error", "refused name")), first, ("direct a a a", Reply("presentation", "2 2: 0 0; 0 1; 0 0")),
                              ("show a", Reply("presentation", "2 2: 0 0; 0 1; 0 0")), ("quotient a a 1,0", Reply("presentation", "2: 0")),
                              shown_first, ("quotient a a 0,0", Reply("error", "refused element")), shown_first], -1)):
            self.assertEqual(first_wrong(entries), at)

    def test_no_definition_by_a_wrong_reply(self):
        wrong = ("let a = 2: 0", Reply("presentation", "3: 0"))
        self.assertEqual(first_wrong([wrong, ("show a", Reply("presentation", "2: 0"))]), 0)
        self.assertEqual(first_wrong([("let a = 2: 0", Reply("error", "text"))]), 0)

    def test_other_papers_are_right(self):
        first = ("let a = 2 3: 0 0; 0 2; 0 0", Reply("presentation", "2 3: 0 0; 0 2; 0 0"))
        for entry, at in ((("conjugate a 0,1 0,2", Reply("conjugate", "yes", ("by", (1, 2)))), -1),
                          (("conjugate a 0,1 0,2", Reply("conjugate", "yes", ("by", (0, 2)))), 1),
                          (("hall a 2", Reply("hall", "2", ("hall", ((1, 2),)))), -1), (("hall a 2", Reply("hall", "3", ("hall", ((1, 2),)))), 1),
                          (("member a 0,1 0,2", Reply("member", "yes", ("word", (-1,)))), -1),
                          (("member a 0,1 0,2", Reply("member", "no", ("word", (-1,)))), 1)):
            self.assertEqual(first_wrong([first, entry]), at)

    def test_values_that_are_no_entries(self):
        for value in odd_values():
            if isinstance(value, tuple) and len(value) == 2 and value == ("", Reply("done")):
                self.assertEqual(first_wrong([value]), -1)
            else:
                self.assertEqual(first_wrong([value]), 0)
                self.assertEqual(first_wrong([("", Reply("done")), value, ("", Reply("done"))]), 1)
            if value != "":
                self.assertEqual(first_wrong([(value, reply_to({}, value)), ("x", Reply("done"))]), 1)


if __name__ == "__main__":
    unittest.main()
