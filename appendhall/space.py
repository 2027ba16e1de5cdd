"""A space: the state that a row of records leads to."""

from appendhall.deeds import apply_deed
from appendhall.images import tree_from_image, tree_image
from appendhall.queries import answer_query
from appendhall.tree import Tree

# What holds for a client of which no record was applied.
_NEVER = (0, None)


class Space:
    """A space, to which no record was applied at first."""

    def __init__(self):
        self._tree = Tree()
        self._applied = 0
        # The last serial and the last answer of each client that has one.
        self._last = {}

    @property
    def applied(self):
        """How many records were applied, the skipped ones too."""
        return self._applied

    def apply(self, record):
        """Apply the next record and return its answer."""
        client, serial, deed = record
        self._applied += 1
        if serial != self.last_serial(client) + 1:
            return ("skipped",)
        answer = apply_deed(self._tree, (self._applied, client, serial), deed)
        self._last[client] = (serial, answer)
        return answer

    def last_serial(self, client):
        """Return the last serial of a client, 0 if it has none."""
        return self._last.get(client, _NEVER)[0]

    def last_answer(self, client):
        """Return the last answer of a client, None if it has none."""
        return self._last.get(client, _NEVER)[1]

    def query(self, query):
        """Return the answer to a query about the tree."""
        return answer_query(self._tree, query)

    def to_image(self):
        """Return the image of the space."""
        clients = tuple([(client,) + self._last[client] for client in sorted(self._last)])
        return (self._applied, tree_image(self._tree), clients)

    @staticmethod
    def from_image(value):
        """Return the space that is read back from an image."""
        applied, tree, clients = value
        space = Space()
        space._applied = applied
        space._tree = tree_from_image(tree)
        space._last = {client: (serial, answer) for client, serial, answer in clients}
        return space
