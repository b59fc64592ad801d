"""The errors of the package. Each has a tag, the name of its class, and the field that its class lists."""


class ForestError(ValueError):
    """What all errors about wrong values have in common. It is never raised itself."""

    def __init__(self, tag, message):
        ValueError.__init__(self, message)
        self.tag = tag


class Missing(LookupError):
    """What all errors about things that do not exist have in common. It is never raised itself."""

    def __init__(self, tag, message):
        LookupError.__init__(self, message)
        self.tag = tag


class EmptyHistory(IndexError):
    """There is nothing to undo or to redo."""

    def __init__(self):
        IndexError.__init__(self, "there is nothing to undo or to redo")
        self.tag = "EmptyHistory"


class BadParent(ForestError):
    """A node whose parent is no node."""

    def __init__(self, node):
        ForestError.__init__(self, "BadParent", f"the parent of node {node} is no node")
        self.node = node


class Cycle(ForestError):
    """A node whose parents do not lead to a root."""

    def __init__(self, node):
        ForestError.__init__(self, "Cycle", f"the parents of node {node} do not lead to a root")
        self.node = node


class TooManyNodes(ForestError):
    """More nodes than are allowed."""

    def __init__(self, limit):
        ForestError.__init__(self, "TooManyNodes", f"there are more than {limit} nodes")
        self.limit = limit


class NotRoot(ForestError):
    """A node that must be a root and is none."""

    def __init__(self, node):
        ForestError.__init__(self, "NotRoot", f"node {node} is no root")
        self.node = node


class SameRoot(ForestError):
    """A link of a root to itself."""

    def __init__(self, node):
        ForestError.__init__(self, "SameRoot", f"root {node} cannot be linked to itself")
        self.node = node


class SizesDiffer(ForestError):
    """Two forests with different numbers of nodes."""

    def __init__(self, size):
        ForestError.__init__(self, "SizesDiffer", f"the other forest has {size} nodes")
        self.size = size


class RootsDiffer(ForestError):
    """Two forests with different roots."""

    def __init__(self, node):
        ForestError.__init__(self, "RootsDiffer", f"node {node} is a root in only one of the forests")
        self.node = node


class NoWay(ForestError):
    """Finds do not lead from one forest to the other."""

    def __init__(self, node):
        ForestError.__init__(self, "NoWay", f"the way is barred at node {node}")
        self.node = node


class BadStep(ForestError):
    """A step that may not stand where it stands."""

    def __init__(self, pos):
        ForestError.__init__(self, "BadStep", f"the step at position {pos} is none of a history")
        self.pos = pos


class BadCost(ForestError):
    """An entry of a log with a negative cost."""

    def __init__(self, pos):
        ForestError.__init__(self, "BadCost", f"the cost of entry {pos} is negative")
        self.pos = pos


class BadSize(ForestError):
    """A number of nodes outside the bounds."""

    def __init__(self, size):
        ForestError.__init__(self, "BadSize", f"{size} is not an allowed number of nodes")
        self.size = size


class BadWeight(ForestError):
    """A weight outside the bounds."""

    def __init__(self, node):
        ForestError.__init__(self, "BadWeight", f"the weight of node {node} is out of bounds")
        self.node = node


class BadCount(ForestError):
    """A count outside the bounds."""

    def __init__(self, count):
        ForestError.__init__(self, "BadCount", f"{count} is not an allowed count")
        self.count = count


class TooLong(ForestError):
    """More steps, finds or entries than are allowed."""

    def __init__(self, limit):
        ForestError.__init__(self, "TooLong", f"the length is greater than {limit}")
        self.limit = limit


class Contradiction(ForestError):
    """An entry with which no tree would agree."""

    def __init__(self, pos):
        ForestError.__init__(self, "Contradiction", f"no tree agrees with entry {pos} and those before it")
        self.pos = pos


class BadName(ForestError):
    """A string that is no name."""

    def __init__(self, name):
        ForestError.__init__(self, "BadName", f"{name!r} is no name")
        self.name = name


class NameTaken(ForestError):
    """A name that another forest has."""

    def __init__(self, name):
        ForestError.__init__(self, "NameTaken", f"there is a forest called {name} already")
        self.name = name


class TooManyForests(ForestError):
    """More forests than are allowed."""

    def __init__(self, limit):
        ForestError.__init__(self, "TooManyForests", f"there are {limit} forests already")
        self.limit = limit


class TooManyWatches(ForestError):
    """More watches than are allowed."""

    def __init__(self, limit):
        ForestError.__init__(self, "TooManyWatches", f"there are {limit} watches already")
        self.limit = limit


class BadCommand(ForestError):
    """A tuple that is no command."""

    def __init__(self, word):
        ForestError.__init__(self, "BadCommand", f"{word!r} begins no command of this form")
        self.word = word


class ParseError(ForestError):
    """A text that is not written by the rules."""

    def __init__(self, pos):
        ForestError.__init__(self, "ParseError", f"the text cannot be parsed at {pos}")
        self.pos = pos


class NoNode(Missing):
    """A node that the forest does not have."""

    def __init__(self, node):
        Missing.__init__(self, "NoNode", f"there is no node {node}")
        self.node = node


class NoForest(Missing):
    """A name without a forest."""

    def __init__(self, name):
        Missing.__init__(self, "NoForest", f"there is no forest called {name}")
        self.name = name


class NoWatch(Missing):
    """A number without a watch."""

    def __init__(self, number):
        Missing.__init__(self, "NoWatch", f"there is no watch {number}")
        self.number = number
