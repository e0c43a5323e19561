"""Written forms of plain data and of logs, and wrong entries (points 11.5 and 11.6)."""

from polychains.errors import Malformed, NoText
from polychains.replies import Reply, defined, is_right
from polychains.sheet import DIGITS, is_label
from polychains.whole import is_integer

MOST_LABEL = 12
MOST_DEPTH = 20


def _written(data, depth):
    """Returns the written form of plain data in which tuples may be nested so deep."""
    if is_integer(data):
        return str(data)
    if is_label(data, MOST_LABEL):
        return data
    if not isinstance(data, tuple) or depth == 0:
        raise Malformed("the value is no plain data")
    return "(" + " ".join([_written(item, depth - 1) for item in data]) + ")"


def write_data(data):
    """Returns the written form of plain data."""
    return _written(data, MOST_DEPTH)


def _read_item(word):
    """Returns the integer or the label with this written form."""
    if is_label(word, MOST_LABEL):
        return word
    digits = word.removeprefix("-")
    if not digits or not all([digit in DIGITS for digit in digits]):
        raise NoText(0)
    if digits[0] == "0" and word != "0":
        raise NoText(0)
    return int(word)


def _end_of(text, at):
    """Returns where the word at a place ends: before a space, a parenthesis or the end."""
    while at < len(text) and text[at] not in " ()":
        at += 1
    return at


def _read_at(text, at, depth):
    """Returns the data whose written form begins at a place, and where it ends."""
    if text[at:at + 1] != "(":
        end = _end_of(text, at)
        return _read_item(text[at:end]), end
    if depth == 0:
        raise NoText(0)
    at += 1
    found = []
    while text[at:at + 1] != ")":
        if found:
            if text[at:at + 1] != " ":
                raise NoText(0)
            at += 1
        item, at = _read_at(text, at, depth - 1)
        found.append(item)
    return tuple(found), at + 1


def read_data(text):
    """Returns the plain data with this written form."""
    if not isinstance(text, str):
        raise NoText(0)
    data, end = _read_at(text, 0, MOST_DEPTH)
    if end != len(text):
        raise NoText(0)
    return data


def _is_row(value):
    """Tells whether a value is a string without a line feed."""
    return isinstance(value, str) and "\n" not in value


def _check_entry(entry):
    if not isinstance(entry, tuple) or len(entry) != 2 or not _is_row(entry[0]):
        raise Malformed("an entry is no pair of a line and a reply")
    reply = entry[1]
    if not isinstance(reply, Reply) or not is_label(reply.kind, MOST_LABEL) or not _is_row(reply.text):
        raise Malformed("a reply has no label as its kind, or no text")
    if not isinstance(reply.data, tuple):
        raise Malformed("the data of a reply are no tuple")


def _written_entry(entry):
    _check_entry(entry)
    line, reply = entry
    return f"> {line}\n= {reply.kind} {reply.text}\n# {write_data(reply.data)}\n"


def write_log(entries):
    """Returns the written form of a list of entries."""
    return "".join([_written_entry(entry) for entry in entries])


def _behind(row, sign):
    """Returns what stands behind the sign and a space with which a row begins."""
    if not row.startswith(sign + " "):
        raise NoText(0)
    return row[2:]


def _read_head(row):
    """Returns the kind and the text of a reply."""
    kind, space, text = _behind(row, "=").partition(" ")
    if not space or not is_label(kind, MOST_LABEL):
        raise NoText(0)
    return kind, text


def _read_tail(row):
    """Returns the data of a reply."""
    data = read_data(_behind(row, "#"))
    if not isinstance(data, tuple):
        raise NoText(0)
    return data


def _read_row(row, at):
    """Returns what the row with this number tells: a line, a kind and a text, or data."""
    try:
        if at % 3 == 0:
            return _behind(row, ">")
        return _read_head(row) if at % 3 == 1 else _read_tail(row)
    except NoText:
        raise NoText(at) from None


def read_log(text):
    """Returns the list of entries with this written form."""
    if not isinstance(text, str):
        raise NoText(0)
    rows = text.split("\n")
    last = rows.pop()
    told = [_read_row(row, at) for at, row in enumerate(rows)]
    if last or len(rows) % 3 != 0:
        raise NoText(len(rows))
    entries = []
    for at in range(0, len(told), 3):
        kind, words = told[at + 1]
        entries.append((told[at], Reply(kind, words, told[at + 2])))
    return entries


def first_wrong(entries):
    """Returns the index of the first entry that is not right over the definitions before it, or -1."""
    names = {}
    for at, entry in enumerate(entries):
        if not is_right(names, entry):
            return at
        definition = defined(names, entry[0])
        if definition is not None:
            name, presentation = definition
            names[name] = presentation
    return -1
