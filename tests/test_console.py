import unittest

from helpers import raised, shown
from polychains.console import Console
from polychains.errors import Refused
from polychains.log import first_wrong, read_log, write_log
from polychains.pres import Presentation, read_presentation
from polychains.replies import Reply, defined, reply_to
from worksheets import told, worksheet


class Consoles(unittest.TestCase):
    def test_worksheets(self):
        for seed in range(6):
            console = Console()
            names = {}
            entries = []
            for line in worksheet(seed, 60):
                expected, definition = told(names, line)
                self.assertEqual(shown(reply_to(console.names(), line)), shown(Reply(*expected)))
                self.assertEqual(shown(defined(console.names(), line)), shown(definition))
                reply = console.enter(line)
                self.assertIsInstance(reply, Reply)
                self.assertEqual(shown(reply), shown(Reply(*expected)))
                entries.append((line, reply))
                names.update([definition] if definition else [])
                self.assertEqual(shown(console.names()), shown(names))
                self.assertEqual(len(console), len(entries))
            self.assertEqual(shown(list(console)), shown(entries))
            self.assertEqual(console.log(), write_log(entries))
            self.assertEqual(first_wrong(list(console)), -1)
            self.assertGreater(len([1 for _, reply in entries if reply.kind != "error"]), 15)

    def test_new_console(self):
        console = Console()
        self.assertEqual((len(console), list(console), console.names(), console.log()), (0, [], {}, ""))
        self.assertIsInstance(console.names(), dict)

    def test_definitions_in_place_of_earlier_ones(self):
        console = Console()
        for line, text in (("let a = 2: 0", "2: 0"), ("show a", "2: 0"), ("let a = 3: 0", "3: 0"), ("show a", "3: 0"),
                           ("direct a a a", "3 3: 0 0; 0 1; 0 0"), ("show a", "3 3: 0 0; 0 1; 0 0"), ("quotient a a 1,1", "3: 0"),
                           ("show a", "3: 0"), ("let a = 4: 0", "text"), ("direct a a b", "refused name"), ("quotient a a 1,1", "refused element"),
                           ("show a", "3: 0"), ("let a = 2 3: 0 1; 0 2; 0 0", "2 3: 0 1; 0 2; 0 0"), ("direct b a a", "refused consistent"),
                           ("show b", "refused name"), ("let b = :", ":"), ("show b", ":")):
            self.assertEqual(console.enter(line).text, text)
        self.assertEqual(sorted(console.names()), ["a", "b"])
        self.assertIsInstance(console.names()["a"], Presentation)
        self.assertEqual(console.names()["b"], read_presentation(":"))

    def test_lines_with_errors_are_entries(self):
        console = Console()
        for line, text in (("nothing", "text"), ("show a", "refused name"), ("let a = 4: 0", "text"), ("x" * 2001, "text"), ("\u00e4\t", "text"),
                           ("direct a a a", "refused name")):
            reply = console.enter(line)
            self.assertEqual(shown(reply), shown(Reply("error", text)))
            self.assertEqual(shown(list(console)[-1]), shown((line, reply)))
            self.assertEqual(console.names(), {})
        self.assertEqual(len(console), 6)
        self.assertEqual(shown(read_log(console.log())), shown(list(console)))

    def check_most(self, console, most):
        for _ in range(most - 1):
            console.enter("# a line")
        if most > 0:
            console.enter("let a = 2: 0")
        for line in ("show a", "let a = 3: 0", "let b = 3: 0", "nothing", "", "# x"):
            before = shown(console), console.log(), len(console)
            self.assertEqual(raised(Refused, console.enter, line).reason, "lines")
            self.assertEqual((shown(console), console.log(), len(console)), before)
        self.assertEqual((len(console), sorted(console.names())), (most, ["a"] if most else []))

    def test_most(self):
        for most in (0, 1, 2, 7, 300, 301):
            self.check_most(Console(most=most), most)
        self.check_most(Console(), 300)
        with self.assertRaises(TypeError):
            Console(5)

    def test_what_is_given_may_be_changed(self):
        console = Console()
        console.enter("let a = 2: 0")
        names = console.names()
        self.assertIsNot(names, console.names())
        names["b"] = names.pop("a")
        self.assertEqual(console.names(), {"a": read_presentation("2: 0")})
        entries = list(console)
        entries.clear()
        self.assertEqual(len(console), 1)

    def test_iterating_again(self):
        console = Console()
        console.enter("")
        console.enter("x")
        self.assertEqual([line for line, _ in console], ["", "x"])
        self.assertEqual([reply.kind for _, reply in console], ["done", "error"])
        self.assertEqual(shown(list(console)), shown(list(console)))
        self.assertTrue(all(isinstance(entry, tuple) and len(entry) == 2 for entry in console))

    def test_consoles_keep_apart(self):
        one, two = Console(), Console()
        one.enter("let a = 2: 0")
        self.assertEqual((len(two), two.names(), two.enter("show a").text), (0, {}, "refused name"))


if __name__ == "__main__":
    unittest.main()
