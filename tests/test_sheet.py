import random
import unittest

from helpers import odd_values, raised, shown
from polychains.errors import NoText
from polychains.pres import Presentation, read_presentation
from polychains.sheet import read_line
from worksheets import FORMS, TEXTS, plainly_read, some_line, spoilt_lines

SAMPLES = {"N": "name", "A": "a", "B": "other", "X": "1,0", "Y": "-", "P": "2,31"}
READ = {"N": "name", "A": "a", "B": "other", "X": (1, 0), "Y": (), "P": (2, 31)}


class Lines(unittest.TestCase):
    def no_line(self, value):
        self.assertEqual(raised(NoText, read_line, value).at, 0)

    def test_forms(self):
        for form in FORMS:
            word, *kinds = form.split()
            tokens = [word, *[SAMPLES[kind] for kind in kinds]]
            expected = (word, *[READ[kind] for kind in kinds])
            for space, before, behind in ((" ", "", ""), ("   ", "", ""), (" ", "  ", ""), (" ", "", " "), ("  ", "    ", "   ")):
                self.assertEqual(shown(read_line(before + space.join(tokens) + behind)), shown(expected))
            self.no_line("".join(tokens))
            self.no_line(" ".join(tokens[:-1]))
            self.no_line(" ".join([*tokens, "a"]))
            self.no_line(" ".join([*tokens, "-"]))
            self.no_line(" ".join([*tokens, "#"]))
            self.no_line(" ".join(tokens).upper())
            self.no_line(word)
            for at in range(1, len(tokens)):
                self.no_line(" ".join(tokens[:at] + tokens[at + 1:]))
                self.no_line(",".join(tokens))
                # A name in the place of a row, or a row in the place of a name.
                other = "1,0" if kinds[at - 1] in "NAB" else "a"
                self.no_line(" ".join(tokens[:at] + [other] + tokens[at + 1:]))

    def test_names(self):
        for name in ("a", "z", "abcdefgh", "let", "show", "empty", "zzzzzzzz"):
            self.assertEqual(read_line(f"show {name}"), ("show", name))
            self.assertEqual(read_line(f"homs {name} {name}"), ("homs", name, name))
            self.assertEqual(read_line(f"direct {name} {name} a"), ("direct", name, name, "a"))
            self.assertEqual(read_line(f"quotient {name} b -"), ("quotient", name, "b", ()))
            self.assertEqual(read_line(f"let {name} = :"), ("let", name, read_presentation(":")))
        for name in ("", "abcdefghi", "A", "aB", "a1", "1", "a_b", "a-b", "-", "a,b", "a.", "=", "a=", "(a)", "#"):
            self.no_line(f"show {name}")
            self.no_line(f"homs a {name}")
            self.no_line(f"direct {name} a a")
            self.no_line(f"quotient {name} a 0")
            self.no_line(f"let {name} = :")
            self.no_line(f"hall {name} 2")

    def test_rows(self):
        for row, expected in (("-", ()), ("0", (0,)), ("99", (99,)), ("0,0", (0, 0)), ("10,9,0", (10, 9, 0)), ("1,99", (1, 99)),
                              (",".join(["98"] * 500), (98,) * 500)):
            self.assertEqual(shown(read_line(f"order a {row}")), shown(("order", "a", expected)))
            self.assertEqual(shown(read_line(f"times a {row} 7")), shown(("times", "a", expected, (7,))))
            self.assertEqual(shown(read_line(f"times a 7 {row}")), shown(("times", "a", (7,), expected)))
            self.assertEqual(shown(read_line(f"quotient n a {row}")), shown(("quotient", "n", "a", expected)))
        for row in ("100", "00", "01", "007", "-1", "+1", "-0", "--", "-,-", "-,1", "1,-", "1,,2", ",", ",1", "1,", "1,2,", "1;2", "1.0",
                    "a", "1a", "0x1", "1_0", "(1)", "1 ,2", "1, 2", "0,100", "0,01", "1e1", "1" * 100, "1,2,,"):
            for line in (f"order a {row}", f"times a {row} 0", f"times a 0 {row}", f"quotient n a {row}", f"member a 0 {row}",
                         f"complement a {row}", f"conjugate a {row} 0"):
                self.no_line(line)

    def test_primes(self):
        for token, expected in (("-", ()), ("2", (2,)), ("31", (31,)), ("3,2", (3, 2)), ("2,2", (2, 2)),
                                ("2,3,5,7,11,13,17,19,23,29,31", (2, 3, 5, 7, 11, 13, 17, 19, 23, 29, 31))):
            self.assertEqual(shown(read_line(f"hall a {token}")), shown(("hall", "a", expected)))
        for token in ("0", "1", "4", "9", "15", "21", "25", "27", "30", "32", "33", "37", "97", "02", "-2", "2,4", "4,2", "2,", ",2",
                      "2,,3", "2,1", "a", "2;3", "101", "2,-"):
            self.no_line(f"hall a {token}")

    def test_let(self):
        for text in TEXTS:
            expected = ("let", "ab", read_presentation(text))
            for line in (f"let ab = {text}", f"let  ab   =    {text}", f"  let ab = {text}  ", f"let ab = {text}" + " " * 50):
                found = read_line(line)
                self.assertEqual(shown(found), shown(expected))
                self.assertIsInstance(found[2], Presentation)
            for line in (f"let ab={text}", f"let ab ={text}", f"let ab= {text}", f"letab = {text}", f"let ab {text}", f"let = {text}",
                         f"let ab == {text}", f"let ab = = {text}", f"let ab = {text} =", f"let ab = {text};", f"let ab = {text} 0",
                         f"let ab c = {text}", f"let let ab = {text}", f"ab = {text}", f"let ab : {text}", f"let ab = {text}#",
                         f"let AB = {text}", f"let ab = ab", f"Let ab = {text}", f"= let ab {text}", f"let ab = {text} ;"):
                self.no_line(line)
        for text in ("", " ", "2", "2:", "2 3: 0 0;0 2; 0 0", "2  3: 0 0; 0 2; 0 0", "2 3: 0 0; 0 2; 0 0;", "4: 0", "2 3 : 0 0; 0 2; 0 0",
                     "2 3: 0 0; 0 3; 0 0", "2 3: 0 0; 0 2", "37: 0", "2 2: 1 0; 0 1; 0 0", "02: 0", ": 0", "::", "x", "2: 00",
                     "31 31 2: 0 0 0; 0 1 0; 0 0 1; 0 0 0; 0 0 1; 0 0 0"):
            self.no_line(f"let ab = {text}")
        for line in ("let", "let a", "let a =", "let =", "let a = ", "let a b", "let = = :", "let a: = 2"):
            self.no_line(line)

    def test_empty(self):
        for line in ("", " ", "   ", " " * 2000, "#", "# show a", "#show a", "##", "# let a = b", "#" * 2000, "#~!\"$&'()*+"):
            self.assertEqual(shown(read_line(line)), shown(("empty",)))
        for line in (" #", "  # show a", "show a # b", "empty", "empty a", "done", "x", "=", "-", "0", " " * 2001, "#" * 2001,
                     "#\n", "\n", "# \t", "\t", "#\x7f", "# \u00e4", "\x1f", "\r", "#\x00"):
            self.no_line(line)

    def test_lengths(self):
        for line in ("show a", "let a = 2: 0", "times a 0,0 1,1", "#"):
            self.assertEqual(read_line(line + " " * (2000 - len(line))), read_line(line))
            self.no_line(line + " " * (2001 - len(line)))
            self.no_line(line + " " * 3000)
        self.assertEqual(len(read_line("order a " + "0," * 995 + "10")[2]), 996)
        self.no_line("order a " + "0," * 995 + "10,")
        self.no_line("order a " + "0," * 996 + "0")

    def test_characters(self):
        for code in [*range(0, 300), 0x2028, 0xff11, 0x0661, 0x1d7ce, 0xfeff, 0xa0, 0x3000]:
            put = chr(code)
            for line in (f"# {put}", f"show a{put}", f"{put}show a", f"order a 1{put}", f"order a {put}", f"show{put}a", f"hall a 3{put}",
                         f"let a = 2: 0{put}", f"let a ={put}:"):
                expected = plainly_read(line)
                if expected is None:
                    self.no_line(line)
                else:
                    self.assertEqual(shown(read_line(line)), shown(expected))

    def test_other_values(self):
        for value in (*odd_values(), ["show a"], ("show", "a"), ("show a",), 10 ** 40, ("empty",)):
            if value == "":
                self.assertEqual(read_line(value), ("empty",))
            else:
                self.no_line(value)

    def test_spoilt_lines(self):
        chooser = random.Random(1)
        taken = 0
        for _ in range(3000):
            line = some_line(chooser)
            self.assertEqual(shown(read_line(line)), shown(plainly_read(line)))
            for other in spoilt_lines(line, chooser, 8):
                for value in (other, *spoilt_lines(other, chooser, 1)):
                    expected = plainly_read(value)
                    if expected is None:
                        self.no_line(value)
                    else:
                        self.assertEqual(shown(read_line(value)), shown(expected))
                        taken += 1
        self.assertGreater(taken, 2000)


if __name__ == "__main__":
    unittest.main()
