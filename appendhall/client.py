"""A client: one of the machines that ask for deeds and look at files."""

from appendhall.errors import BadValue, Busy
from appendhall.records import is_deed
from appendhall.tape import Tape
from appendhall.values import is_integer

# The first words of the entries of a tape.
_ASK = "ask"
_DONE = "done"
_LOOK = "look"


class Client:
    """A client on its disk."""

    def __init__(self, number, disk):
        self.number = number
        self.serial = 0
        self.deed = None
        self.rid = 0
        # The query of the open look; it is not on the tape.
        self._query = None
        self._tape = Tape(disk)
        for entry in self._tape.entries():
            self._take(entry)

    def ask(self, deed):
        """Begin a request and return its serial."""
        if not is_deed(deed):
            raise BadValue("what is asked is not a deed")
        if self.deed is not None:
            raise Busy("the last request is not answered yet")
        self._keep((_ASK, self.serial + 1, deed))
        return self.serial

    def look(self, query):
        """Begin a look, in the place of an earlier one, and return its rid."""
        if not is_deed(query):
            raise BadValue("the query does not have the form of a deed")
        self._keep((_LOOK, self.rid + 1))
        self._query = query
        return self.rid

    def request(self):
        """Return the body that tells the open request, or None."""
        if self.deed is None:
            return None
        return ("request", self.serial, self.deed)

    def read(self):
        """Return the body that tells the open look, or None."""
        if self._query is None:
            return None
        return ("read", self.rid, self._query)

    def handle(self, body):
        """Handle the body of a message and return what it has told, or None."""
        if self.deed is not None and _tells(body, "answer", 3, self.serial):
            self._keep((_DONE, self.serial))
            return ("answered",) + body[1:]
        if self._query is not None and _tells(body, "value", 4, self.rid):
            self._query = None
            return ("seen",) + body[1:]
        return None

    def _keep(self, entry):
        self._tape.append(entry)
        self._tape.sync()
        self._take(entry)

    def _take(self, entry):
        """Change the fields as an entry of the tape tells."""
        if entry[0] == _ASK:
            self.serial = entry[1]
            self.deed = entry[2]
        elif entry[0] == _DONE:
            self.deed = None
        else:
            self.rid = entry[1]


def _tells(body, word, count, number):
    """Tell whether a body has this word, so many items and this number; True is no number."""
    return len(body) == count and body[0] == word and is_integer(body[1]) and body[1] == number
