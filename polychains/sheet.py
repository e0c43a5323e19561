"""Lines of worksheets and their commands (point 11.1)."""

from polychains.errors import NoText
from polychains.pres import read_presentation
from polychains.whole import is_small_prime

MOST_CHARACTERS = 2000
LETTERS = "abcdefghijklmnopqrstuvwxyz"
DIGITS = "0123456789"
MOST_LETTERS = 8
# What stands behind the first token: N is a new name, A and B are names, X and Y rows, P primes.
FORMS = {
    "direct": "NAB", "quotient": "NAX", "show": "A", "consistent": "A", "times": "AXY", "order": "AX",
    "derived": "A", "lower": "A", "invariants": "A", "chief": "A", "classes": "A", "homs": "AB",
    "member": "AXY", "complement": "AX", "hall": "AP", "conjugate": "AXY",
}


def is_label(value, most):
    """Tells whether a value is a string of 1 to `most` small letters."""
    return isinstance(value, str) and 1 <= len(value) <= most and all([letter in LETTERS for letter in value])


def _is_line(value):
    if not isinstance(value, str) or len(value) > MOST_CHARACTERS:
        return False
    return all([" " <= letter <= "~" for letter in value])


def _read_name(token):
    if not is_label(token, MOST_LETTERS):
        raise NoText(0)
    return token


def _read_number(token):
    if not 1 <= len(token) <= 2 or not all([letter in DIGITS for letter in token]) or str(int(token)) != token:
        raise NoText(0)
    return int(token)


def _read_row(token):
    if token == "-":
        return ()
    return tuple([_read_number(part) for part in token.split(",")])


def _read_primes(token):
    primes = _read_row(token)
    if not all([is_small_prime(p) for p in primes]):
        raise NoText(0)
    return primes


def _read_token(form, token):
    if form in "XY":
        return _read_row(token)
    return _read_primes(token) if form == "P" else _read_name(token)


def _read_let(line, tokens):
    if len(tokens) < 3 or tokens[2] != "=":
        raise NoText(0)
    _, _, text = line.partition("=")
    return "let", _read_name(tokens[1]), read_presentation(text.strip(" "))


def read_line(line):
    """Returns the command of a line as a tuple: its first token, names, rows and the presentation."""
    if not _is_line(line):
        raise NoText(0)
    tokens = [token for token in line.split(" ") if token]
    if not tokens or line[0] == "#":
        return ("empty",)
    if tokens[0] == "let":
        return _read_let(line, tokens)
    forms = FORMS.get(tokens[0], "")
    if not forms or len(tokens) != len(forms) + 1:
        raise NoText(0)
    return (tokens[0], *[_read_token(form, token) for form, token in zip(forms, tokens[1:])])
