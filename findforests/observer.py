"""Observers of a hidden tree: a log that grows entry by entry, and what it tells about the tree."""

from findforests.errors import Contradiction, EmptyHistory, TooManyNodes
from findforests.logs import MAX_LOG_NODES, count_hidden, find_hidden, next_costs


class Observer:
    """A log of finds and costs over a hidden tree, with which at least one tree agrees at any time."""

    def __init__(self, size):
        if size > MAX_LOG_NODES:
            raise TooManyNodes(MAX_LOG_NODES)
        self.size = size
        self.entries = []
        self.undone = []

    def __len__(self):
        return len(self.entries)

    def __eq__(self, other):
        return isinstance(other, Observer) and self.size == other.size and self.entries == other.entries

    def __repr__(self):
        return f"Observer({self.size} nodes, {len(self.entries)} finds)"

    def observe(self, node, *, cost=0):
        """Adds an entry, and returns the number of trees that agree with the new log.

        Raises TooLong, NoNode, BadCost or Contradiction.
        """
        longer = [*self.entries, (node, cost)]
        # All but the last entry were checked before, so that whatever is raised here is about the new one.
        left = count_hidden(self.size, longer)
        if left == 0:
            raise Contradiction(len(self.entries))
        self.entries = longer
        self.undone = []
        return left

    def undo(self):
        """Removes the last entry. Raises EmptyHistory."""
        if not self.entries:
            raise EmptyHistory()
        self.undone.append(self.entries.pop())

    def redo(self):
        """Adds the entry that was removed last, if no other one was added since. Raises EmptyHistory."""
        if not self.undone:
            raise EmptyHistory()
        self.entries.append(self.undone.pop())

    def node_count(self):
        """Returns the number of nodes."""
        return self.size

    def observed(self):
        """Returns the log."""
        return list(self.entries)

    def trees_left(self):
        """Returns the number of trees that agree with the log."""
        return count_hidden(self.size, self.entries)

    def example(self):
        """Returns a tree that agrees with the log."""
        return find_hidden(self.size, self.entries)

    def forecast(self, node):
        """Returns the ascending list of pairs (cost, number) of what a find of the node may cost. Raises NoNode."""
        return next_costs(self.size, self.entries, node)

    def certain_nodes(self):
        """Returns the ascending list of the nodes whose next find can have one cost only."""
        return [node for node in range(self.size) if len(self.forecast(node)) == 1]

    def twin(self):
        """Returns an independent copy with the same log and the same entries to redo."""
        double = Observer(self.size)
        double.entries = list(self.entries)
        double.undone = list(self.undone)
        return double
