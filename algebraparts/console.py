"""The console: it keeps definitions and entries."""

from algebraparts.errors import Refused
from algebraparts.log import write_log
from algebraparts.replies import defined, reply_to


class Console:
    """A worksheet that grows line by line."""

    def __init__(self, *, most=300):
        self.most = most
        self.entries = []
        self.algebras = {}

    def __len__(self):
        return len(self.entries)

    def __iter__(self):
        return iter(self.entries)

    def enter(self, line):
        """Enter a line, a string without a line feed, and return the reply."""
        if len(self.entries) >= self.most:
            raise Refused("lines")
        reply = reply_to(self.algebras, line)
        pair = defined(self.algebras, line)
        self.entries.append((line, reply))
        if pair is not None:
            self.algebras[pair[0]] = pair[1]
        return reply

    def names(self):
        """Return a new dict from the defined names to their algebras."""
        return dict(self.algebras)

    def log(self):
        """Return the written form of the entries."""
        return write_log(self.entries)
