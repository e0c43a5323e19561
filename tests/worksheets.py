"""Lines of worksheets by regular expressions, and some lines for the tests of consoles and logs."""

import random
import re

from plain import plain_of
from polychains.build import direct
from polychains.checker import takes_complement, takes_conjugate, takes_consistent, takes_hall, takes_member
from polychains.collect import is_consistent
from polychains.errors import Malformed, NoText, Refused
from polychains.group import Group
from polychains.maps import homs
from polychains.papers import complement_paper, conjugate_paper, consistency_paper, hall_paper, member_paper
from polychains.pres import read_presentation
from polychains.quotient import Quotient
from polychains.series import abelian_invariants, chief_factors, derived_series, lower_central_series
from polychains.subgroup import normal_closure

NUMBER = "(?:0|[1-9][0-9]?)"
PRIME = "(?:2|3|5|7|11|13|17|19|23|29|31)"
TOKENS = {"N": "[a-z]{1,8}", "A": "[a-z]{1,8}", "B": "[a-z]{1,8}", "X": f"(?:-|{NUMBER}(?:,{NUMBER})*)",
          "Y": f"(?:-|{NUMBER}(?:,{NUMBER})*)", "P": f"(?:-|{PRIME}(?:,{PRIME})*)"}
FORMS = ("direct N A B", "quotient N A X", "show A", "consistent A", "times A X Y", "order A X", "derived A", "lower A",
         "invariants A", "chief A", "classes A", "homs A B", "member A X Y", "complement A X", "hall A P", "conjugate A X Y")
TEXTS = (":", "2: 0", "2 3: 0 0; 0 2; 0 0", "2 3: 0 1; 0 2; 0 0", "2 2: 0 1; 0 1; 0 0", "31: 0", "2 2 2: 0 0 0; 0 1 1; 0 0 1; 0 0 0; 0 0 1; 0 0 0")


def row_of(token):
    return () if token == "-" else tuple(int(part) for part in token.split(","))


def plainly_read(line):
    """The command of a line, or None if it has none."""
    if not isinstance(line, str) or not re.fullmatch("[ -~]{0,2000}", line):
        return None
    if line.startswith("#") or not line.strip(" "):
        return ("empty",)
    found = re.fullmatch(" *let +([a-z]{1,8}) +=( .*)?", line)
    if found:
        try:
            return "let", found[1], read_presentation((found[2] or "").strip(" "))
        except NoText:
            return None
    for form in FORMS:
        word, *kinds = form.split()
        found = re.fullmatch(f" *{word}{''.join(f' +({TOKENS[kind]})' for kind in kinds)} *", line)
        if found:
            return (word, *[part if kind in "NAB" else row_of(part) for kind, part in zip(kinds, found.groups())])
    return None


def some_token(kind, chooser):
    if kind in "NAB":
        return chooser.choice(["a", "b", "c", "d", "t", "z", "abcdefgh", "let", "show"])
    if kind == "P":
        return chooser.choice(["-", "2", "3", "2,3", "31", "2,2", "3,2", "2,3,5,7,11,13,17,19,23,29,31"])
    return chooser.choice(["-", "0", "1", "0,0", "0,1", "0,2", "1,0", "1,1", "1,2", "99", "0,0,1", "1,0,1", "10,0", "0,1,0,1"])


def some_line(chooser):
    """A line of one of the forms, with names that may be defined."""
    if chooser.randrange(6) == 0:
        return f"let {chooser.choice('abcdt')} = {chooser.choice(TEXTS)}"
    word, *kinds = chooser.choice(FORMS).split()
    return " ".join([word, *[some_token(kind, chooser) for kind in kinds]])


def spoilt_lines(line, chooser, many):
    """Lines with a character put in, taken out or replaced."""
    for _ in range(many):
        at = chooser.randrange(len(line) + 1)
        put = chooser.choice(["", " ", "  ", ",", "-", "0", "1", "9", "a", "z", "A", "=", "#", ":", ";", "+", "_", "\n", "\t", "~", "\x7f", "\u00e9"])
        yield line[:at] + put + line[at + chooser.randrange(2):]


def worksheet(seed, many):
    """A worksheet: lines that define, lines that ask, and lines with errors."""
    chooser = random.Random(seed)
    lines = [f"let {name} = {text}" for name, text in zip("abcdt", (TEXTS[2], TEXTS[4], TEXTS[6], TEXTS[3], TEXTS[0]))]
    for _ in range(many):
        line = some_line(chooser)
        lines.append(line if chooser.randrange(8) else next(spoilt_lines(line, chooser, 1)).replace("\n", ""))
    return lines


def row_text(row):
    return ",".join(map(str, row)) or "-"


def told_values(names, command):
    """The values of a command's parts by their letters; raises what point 11.2 tells before it is carried out."""
    form = next(form for form in FORMS if form.split()[0] == command[0])
    values = dict(zip(form.split()[1:], command[1:]))
    for name in [values[letter] for letter in "AB" if letter in values]:
        if name not in names:
            raise Refused("name")
    if command[0] not in ("show", "consistent"):
        if not all(is_consistent(names[values[letter]]) for letter in "AB" if letter in values):
            raise Refused("consistent")
    for letter in "XY":
        if letter in values and not names[values["A"]].is_row(values[letter]):
            raise Refused("element")
    return values


def told_result(names, command):
    """The kind, text and data of a reply without errors, and the presentation that is defined or None."""
    word = command[0]
    if word == "empty":
        return "done", "", (), None
    if word == "let":
        return "presentation", str(command[2]), (), command[2]
    values = told_values(names, command)
    a = names[values["A"]]
    if word == "show":
        return "presentation", str(a), (), None
    if word == "consistent":
        return "consistent", "yes" if is_consistent(a) else "no", consistency_paper(a), None
    if word == "direct":
        made = direct(a, names[values["B"]])
        return "presentation", str(made), (), made
    if word == "homs":
        return "number", str(len(homs(Group(a), Group(names[values["B"]])))), (), None
    return told_answer(word, plain_of(a), values)


def told_answer(word, plain, values):
    group = plain.group
    x, y = values.get("X"), values.get("Y")
    if word == "quotient":
        made = Quotient(group, normal_closure(group, [x])).group.presentation
        return "presentation", str(made), (), made
    if word == "times":
        return "element", row_text(plain.products[x, y]), (), None
    if word == "order":
        return "number", str(plain.order_of(x)), (), None
    if word == "classes":
        return "number", str(len({min(plain.conjugated(x, y) for y in plain.rows) for x in plain.rows})), (), None
    if word in ("derived", "lower"):
        terms = (derived_series if word == "derived" else lower_central_series)(group)
        return "orders", " ".join(str(len(term.all_members())) for term in terms), (), None
    if word == "invariants":
        return "orders", " ".join(map(str, abelian_invariants(group))), (), None
    if word == "chief":
        return "factors", " ".join(f"{p}^{d}" for p, d in chief_factors(group)), (), None
    if word == "member":
        return word, "yes" if y in plain.closing([x]) else "no", member_paper(group, (x,), y), None
    if word == "complement":
        n = normal_closure(group, (x,))
        paper = complement_paper(group, n)
        members = frozenset(n.all_members())
        found = any(len(own) * len(members) == len(plain.rows) and own & members == plain.trivial for own in plain.subgroups())
        return word, "yes" if found else "no", paper, None
    if word == "conjugate":
        return word, "yes" if any(plain.conjugated(x, z) == y for z in plain.rows) else "no", conjugate_paper(group, x, y), None
    assert word == "hall"
    order = 1
    for p in group.primes:
        order *= p if p in values["P"] else 1
    return word, str(order), hall_paper(group, values["P"]), None


def told(names, line):
    """The kind, text and data that the document tells for a line, and what the line defines."""
    command = plainly_read(line)
    if command is None:
        return ("error", "text", ()), None
    try:
        kind, text, data, made = told_result(names, command)
    except Malformed:
        return ("error", "malformed", ()), None
    except Refused as fault:
        return ("error", f"refused {fault.reason}", ()), None
    return (kind, text, data), None if made is None else (command[1], made)


def is_accepted(names, command, paper):
    """Whether the checker accepts a paper for the command."""
    a = names[command[1]]
    if command[0] == "consistent":
        return takes_consistent(a, paper)
    group = plain_of(a).group
    if command[0] == "member":
        return takes_member(group, command[2:3], command[3], paper)
    if command[0] == "complement":
        return takes_complement(group, normal_closure(group, command[2:]), paper)
    if command[0] == "hall":
        return takes_hall(group, command[2], paper)
    return takes_conjugate(group, *command[2:], paper)
