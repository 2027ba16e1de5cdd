"""The tree of files and directories."""

from appendhall.errors import Unknown
from appendhall.nodes import Directory, File

_ROOT = 0


class Tree:
    """A tree of nodes, which has only the root at first."""

    def __init__(self):
        self._nodes = [Directory()]
        # The parent and the name of each node but the root, so that the way up is no search.
        self._places = {}

    def __len__(self):
        return len(self._nodes)

    def node(self, number):
        """Return the node with this number."""
        if not 0 <= number < len(self._nodes):
            raise Unknown("there is no node with this number")
        return self._nodes[number]

    def attach(self, parent, name, node):
        """Add a new node with an entry in a directory, and return its number."""
        number = len(self._nodes)
        self._nodes.append(node)
        self._enter(number, parent, name)
        return number

    def move_node(self, number, parent, name):
        """Give a node another entry instead of the one that it has."""
        old_parent, old_name = self._places[number]
        self._nodes[old_parent].take(old_name)
        self._enter(number, parent, name)

    def look_up(self, names):
        """Return the number of the node that the names lead to, or the word of the failure."""
        number = _ROOT
        for name in names:
            node = self._nodes[number]
            if isinstance(node, File):
                return "kind"
            number = node.child(name)
            if number is None:
                return "missing"
        return number

    def names_of(self, number):
        """Return the names of the path of a node."""
        names = []
        at = number
        while at != _ROOT:
            at, name = self._places[at]
            names.append(name)
        return names[::-1]

    def above(self, number):
        """Return the directories above a node, the parent first."""
        parents = []
        at = number
        while at != _ROOT:
            at, _ = self._places[at]
            parents.append(at)
        return parents

    def size_of(self, number):
        """Return the length of a file, or of all files below a directory together."""
        node = self._nodes[number]
        if isinstance(node, File):
            return node.length
        return sum([self.size_of(child) for child in _children(node)])

    def height_of(self, number):
        """Return how many levels of nodes there are below a node."""
        node = self._nodes[number]
        if isinstance(node, File):
            return 0
        return max([1 + self.height_of(child) for child in _children(node)], default=0)

    @staticmethod
    def holding(nodes):
        """Return a tree of the nodes of a list, the root first; the directories have their entries already."""
        tree = Tree()
        tree._nodes = list(nodes)
        for parent, node in enumerate(nodes):
            if isinstance(node, Directory):
                for name in node.names():
                    tree._places[node.child(name)] = (parent, name)
        return tree

    def _enter(self, number, parent, name):
        self._nodes[parent].put(name, number)
        self._places[number] = (parent, name)


def _children(directory):
    """Return the numbers of the nodes of the entries of a directory."""
    return [directory.child(name) for name in directory.names()]
