"""Consoles: definitions and entries of a worksheet (point 11.4)."""

from polychains.errors import Refused
from polychains.log import write_log
from polychains.replies import outcome


class Console:
    """Keeps the definitions and the entries of the lines that are entered."""

    def __init__(self, *, most=300):
        self._most = most
        self._names = {}
        self._entries = []

    def __len__(self):
        return len(self._entries)

    def __iter__(self):
        return iter(self._entries)

    def enter(self, line):
        """Adds the entry of a line, keeps what it defines, and returns the reply."""
        if len(self._entries) >= self._most:
            raise Refused("lines")
        reply, definition = outcome(self._names, line)
        self._entries.append((line, reply))
        if definition is not None:
            name, presentation = definition
            self._names[name] = presentation
        return reply

    def names(self):
        """Returns a new dict from the defined names to their presentations."""
        return dict(self._names)

    def log(self):
        """Returns the written form of the entries."""
        return write_log(self._entries)
