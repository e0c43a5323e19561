"""Replies to lines of worksheets, and right entries (points 11.2, 11.3 and 11.5)."""

from polychains.build import direct
from polychains.checker import takes_complement, takes_conjugate, takes_consistent, takes_hall, takes_member
from polychains.classes import conjugacy_classes
from polychains.errors import Malformed, NoText, Refused
from polychains.group import Group
from polychains.maps import homs
from polychains.papers import complement_paper, conjugate_paper, consistency_paper, hall_paper, member_paper
from polychains.quotient import Quotient
from polychains.sequence import order_of_places
from polychains.series import abelian_invariants, chief_factors, derived_series, lower_central_series
from polychains.sheet import FORMS, read_line
from polychains.subgroup import normal_closure


def _are_alike(one, two):
    """Tells whether two values are equal; True and False are unlike all integers."""
    waiting = [(one, two)]
    while waiting:
        x, y = waiting.pop()
        if isinstance(x, bool) != isinstance(y, bool):
            return False
        nested = isinstance(x, tuple) and isinstance(y, tuple) or isinstance(x, list) and isinstance(y, list)
        if nested and len(x) == len(y):
            waiting.extend(list(zip(x, y)))
        elif nested or x != y:
            return False
    return True


class Reply:
    """What a line is answered: a kind, a text and data."""

    def __init__(self, kind, text="", data=()):
        self.kind = kind
        self.text = text
        self.data = data

    def __eq__(self, other):
        return (isinstance(other, Reply) and _are_alike(self.kind, other.kind)
                and _are_alike(self.text, other.text) and _are_alike(self.data, other.data))


def _presented(presentation):
    return Reply("presentation", str(presentation))


def _number(number):
    return Reply("number", str(number))


def _orders(numbers):
    return Reply("orders", " ".join([str(number) for number in numbers]))


def _row_text(row):
    return ",".join([str(item) for item in row]) if row else "-"


# The parts of a command are a dict: N is a new name, A and B are groups, X and Y elements, P primes. For `show`
# and `consistent` A is a presentation.


def _closure(parts):
    """Returns the normal closure of X."""
    return normal_closure(parts["A"], (parts["X"],))


def _direct(parts):
    return direct(parts["A"].presentation, parts["B"].presentation)


def _quotient(parts):
    return Quotient(parts["A"], _closure(parts)).group.presentation


def _show(parts):
    return _presented(parts["A"])


def _times(parts):
    return Reply("element", _row_text(parts["A"].multiply(parts["X"], parts["Y"])))


def _order(parts):
    return _number(parts["A"].order_of(parts["X"]))


def _derived(parts):
    return _orders([term.order for term in derived_series(parts["A"])])


def _lower(parts):
    return _orders([term.order for term in lower_central_series(parts["A"])])


def _invariants(parts):
    return _orders(abelian_invariants(parts["A"]))


def _chief(parts):
    return Reply("factors", " ".join([f"{p}^{d}" for p, d in chief_factors(parts["A"])]))


def _classes(parts):
    return _number(len(conjugacy_classes(parts["A"])))


def _homs(parts):
    return _number(len(homs(parts["A"], parts["B"])))


def _consistency_paper(parts):
    return consistency_paper(parts["A"])


def _member_paper(parts):
    return member_paper(parts["A"], (parts["X"],), parts["Y"])


def _complement_paper(parts):
    return complement_paper(parts["A"], _closure(parts))


def _hall_paper(parts):
    return hall_paper(parts["A"], parts["P"])


def _conjugate_paper(parts):
    return conjugate_paper(parts["A"], parts["X"], parts["Y"])


def _takes_consistent(parts, paper):
    return takes_consistent(parts["A"], paper)


def _takes_member(parts, paper):
    return takes_member(parts["A"], (parts["X"],), parts["Y"], paper)


def _takes_complement(parts, paper):
    return takes_complement(parts["A"], _closure(parts), paper)


def _takes_hall(parts, paper):
    return takes_hall(parts["A"], parts["P"], paper)


def _takes_conjugate(parts, paper):
    return takes_conjugate(parts["A"], parts["X"], parts["Y"], paper)


DEFINING = {"direct": _direct, "quotient": _quotient}
TELLING = {
    "show": _show, "times": _times, "order": _order, "derived": _derived, "lower": _lower,
    "invariants": _invariants, "chief": _chief, "classes": _classes, "homs": _homs,
}
PAPERS = {
    "consistent": _consistency_paper, "member": _member_paper, "complement": _complement_paper,
    "hall": _hall_paper, "conjugate": _conjugate_paper,
}
TAKERS = {
    "consistent": _takes_consistent, "member": _takes_member, "complement": _takes_complement,
    "hall": _takes_hall, "conjugate": _takes_conjugate,
}
YES = ("consistent", "word", "complement", "by")
UNGROUPED = ("show", "consistent")


def _parts_of(names, command):
    """Returns the parts of a command that names presentations."""
    parts = dict(zip(FORMS[command[0]], command[1:]))
    known = [letter for letter in "AB" if letter in parts]
    if any([parts[letter] not in names for letter in known]):
        raise Refused("name")
    for letter in known:
        parts[letter] = names[parts[letter]]
    if command[0] not in UNGROUPED:
        for letter in known:
            parts[letter] = Group(parts[letter])
    if not all([parts["A"].is_element(parts[letter]) for letter in "XY" if letter in parts]):
        raise Refused("element")
    return parts


def _paper_text(parts, paper):
    """Returns the text that belongs to an accepted paper."""
    if paper[0] == "hall":
        group = parts["A"]
        return str(order_of_places(group, [group.place(row) for row in paper[1]]))
    return "yes" if paper[0] in YES else "no"


def _carried_out(names, command):
    """Returns the reply and the pair of a name and a presentation that a command defines, or None."""
    word = command[0]
    if word == "empty":
        return Reply("done"), None
    if word == "let":
        return _presented(command[2]), command[1:]
    parts = _parts_of(names, command)
    if word in DEFINING:
        make = DEFINING[word]
        made = make(parts)
        return _presented(made), (parts["N"], made)
    if word in PAPERS:
        make = PAPERS[word]
        paper = make(parts)
        return Reply(word, _paper_text(parts, paper), paper), None
    tell = TELLING[word]
    return tell(parts), None


def outcome(names, line):
    """Returns the reply to a line and what the line defines, or None."""
    try:
        return _carried_out(names, read_line(line))
    except NoText:
        return Reply("error", "text"), None
    except Malformed:
        return Reply("error", "malformed"), None
    except Refused as fault:
        return Reply("error", f"refused {fault.reason}"), None


def reply_to(names, line):
    """Returns the reply to a line."""
    reply, _ = outcome(names, line)
    return reply


def _may_define(line):
    """Tells whether a value is a line with a new name."""
    try:
        command = read_line(line)
    except NoText:
        return False
    return command[0] == "let" or command[0] in DEFINING


def defined(names, line):
    """Returns the pair of the name and the presentation that a line defines, or None."""
    # Other lines need not be carried out, which may take long.
    if not _may_define(line):
        return None
    _, definition = outcome(names, line)
    return definition


def is_right(names, entry):
    """Tells whether a value is a pair of a line and a right reply to it."""
    if not isinstance(entry, tuple) or len(entry) != 2 or not isinstance(entry[1], Reply):
        return False
    line, reply = entry
    told = reply_to(names, line)
    if told.kind not in TAKERS:
        return reply == told
    parts = _parts_of(names, read_line(line))
    take = TAKERS[told.kind]
    return reply.kind == told.kind and take(parts, reply.data) and reply.text == _paper_text(parts, reply.data)
