"""Stores of named forests, with commands, undo, redo and watches."""

from findforests.errors import (
    BadCommand, BadCount, BadName, EmptyHistory, NameTaken, NoForest, NoWatch, TooManyForests, TooManyWatches,
)
from findforests.finds import find, find_all, link, unite
from findforests.forests import check_forest, path_of, single_nodes
from findforests.histories import run_history
from findforests.ways import flattening_finds, needed_finds

MAX_FORESTS = 6
MAX_WATCHES = 6
MAX_LETTERS = 6
LENGTHS = {
    "new": 3, "drop": 2, "copy": 3, "swap": 3, "find": 3, "link": 4, "unite": 4, "run": 3, "flatten": 2, "grow": 3,
}


def is_name(text):
    """Returns whether a string is a name."""
    return 1 <= len(text) <= MAX_LETTERS and all(["a" <= letter <= "z" for letter in text])


def forest_in(forests, name):
    """Returns the forest of this name. Raises NoForest."""
    if name not in forests:
        raise NoForest(name)
    return forests[name]


def check_new_name(forests, name):
    """Returns None if a forest of this name may be added. Raises BadName, NameTaken or TooManyForests otherwise."""
    if not is_name(name):
        raise BadName(name)
    if name in forests:
        raise NameTaken(name)
    if len(forests) >= MAX_FORESTS:
        raise TooManyForests(MAX_FORESTS)


# Each of the following functions does one command. It returns the pair of a new dict of forests and the cost, and
# leaves the dict that it is passed as it is, because steps that can be undone keep it.


def do_new(forests, name, parents):
    """Adds a forest."""
    check_new_name(forests, name)
    forest = tuple(parents)
    check_forest(forest)
    return {**forests, name: forest}, 0


def do_drop(forests, name):
    """Removes a forest."""
    forest_in(forests, name)
    return {kept: forests[kept] for kept in forests if kept != name}, 0


def do_copy(forests, name, other):
    """Adds a copy with the name other."""
    forest = forest_in(forests, name)
    check_new_name(forests, other)
    return {**forests, other: forest}, 0


def do_swap(forests, name, other):
    """Exchanges the names of two forests."""
    first = forest_in(forests, name)
    second = forest_in(forests, other)
    return {**forests, name: second, other: first}, 0


def do_find(forests, name, node):
    """Finds a node."""
    after, cost = find(forest_in(forests, name), node)
    return {**forests, name: after}, cost


def do_link(forests, name, child, above):
    """Links a root to a different root."""
    return {**forests, name: link(forest_in(forests, name), child, above)}, 0


def do_unite(forests, name, one, other):
    """Finds two nodes, and links their roots if they differ."""
    after, cost = unite(forest_in(forests, name), one, other)
    return {**forests, name: after}, cost


def do_run(forests, name, history):
    """Runs a history."""
    after, cost = run_history(forest_in(forests, name), history)
    return {**forests, name: after}, cost


def do_flatten(forests, name):
    """Finds the nodes that it takes to flatten a forest."""
    forest = forest_in(forests, name)
    after, costs = find_all(forest, flattening_finds(forest))
    return {**forests, name: after}, sum(costs)


def do_grow(forests, name, many):
    """Adds so many roots with the next numbers."""
    forest = forest_in(forests, name)
    if many < 0:
        raise BadCount(many)
    roots = single_nodes(len(forest) + many)
    return {**forests, name: forest + roots[len(forest):]}, 0


ACTIONS = {
    "new": do_new, "drop": do_drop, "copy": do_copy, "swap": do_swap, "find": do_find, "link": do_link,
    "unite": do_unite, "run": do_run, "flatten": do_flatten, "grow": do_grow,
}


def check_command(command):
    """Returns None if a tuple has the first element and the length of a command. Raises BadCommand otherwise."""
    word = command[0] if command else None
    if LENGTHS.get(word) != len(command):
        raise BadCommand(word)


def do_command(forests, command):
    """Returns the pair of a new dict of forests and the cost of a checked command. Raises its errors."""
    word, *rest = command
    action = ACTIONS[word]
    return action(forests, *rest)


def count_nodes(forests):
    """Returns the number of nodes of all forests."""
    return sum([len(forest) for forest in forests.values()])


def watch_value(forests, name, node):
    """Returns the pair (root, depth) of a node, or None if there is no such forest or node."""
    if name not in forests or not 0 <= node < len(forests[name]):
        return None
    path = path_of(forests[name], node)
    return path[-1], len(path) - 1


class Store:
    """Up to six forests with names. A step replaces the dict of the forests, and never changes it."""

    def __init__(self):
        self.forests = {}
        self.total = 0
        self.past = []
        self.future = []
        self.watches = {}
        self.told = {}
        self.last_number = 0

    def __len__(self):
        return len(self.forests)

    def __eq__(self, other):
        return isinstance(other, Store) and self.forests == other.forests

    def __repr__(self):
        return f"Store({len(self.forests)} forests, {count_nodes(self.forests)} nodes)"

    def apply(self, command):
        """Applies one command as one step, and returns its cost. Raises the errors of the command."""
        return self.apply_all([command])[0]

    def apply_all(self, commands):
        """Applies commands as one step, all or none, and returns the list of their costs. Raises their errors."""
        for command in commands:
            check_command(command)
        forests = self.forests
        costs = []
        for command in commands:
            forests, cost = do_command(forests, command)
            costs.append(cost)
        self.past.append((self.forests, self.total))
        self.future = []
        self.forests = forests
        self.total += sum(costs)
        return costs

    def undo(self):
        """Undoes the last step. Raises EmptyHistory."""
        if not self.past:
            raise EmptyHistory()
        self.future.append((self.forests, self.total))
        self.forests, self.total = self.past.pop()

    def redo(self):
        """Redoes the step that was undone last. Raises EmptyHistory."""
        if not self.future:
            raise EmptyHistory()
        self.past.append((self.forests, self.total))
        self.forests, self.total = self.future.pop()

    def names(self):
        """Returns the ascending list of the names."""
        return sorted(self.forests)

    def forest_of(self, name):
        """Returns the forest of this name. Raises NoForest."""
        return forest_in(self.forests, name)

    def total_cost(self):
        """Returns the sum of the costs of all steps that are not undone."""
        return self.total

    def steps(self):
        """Returns the pair of the numbers of steps that can be undone and redone."""
        return len(self.past), len(self.future)

    def distance(self, name, other):
        """Returns the number of needed nodes on the way from one forest to another.

        Raises NoForest for name, then for other, SizesDiffer, RootsDiffer or NoWay.
        """
        one = self.forest_of(name)
        return len(needed_finds(one, self.forest_of(other)))

    def watch(self, name, node):
        """Adds a watch, and returns its number. Raises TooManyWatches."""
        if len(self.watches) >= MAX_WATCHES:
            raise TooManyWatches(MAX_WATCHES)
        self.last_number += 1
        self.watches[self.last_number] = (name, node)
        self.told[self.last_number] = watch_value(self.forests, name, node)
        return self.last_number

    def unwatch(self, number):
        """Removes a watch. Raises NoWatch."""
        if number not in self.watches:
            raise NoWatch(number)
        del self.watches[number]
        del self.told[number]

    def watched(self):
        """Returns the ascending list of tuples (number, name, node, value) of all watches."""
        rows = []
        for number in sorted(self.watches):
            name, node = self.watches[number]
            rows.append((number, name, node, watch_value(self.forests, name, node)))
        return rows

    def news(self):
        """Returns the ascending list of pairs (number, value) of the watches with another value than told last."""
        rows = [(number, value) for number, name, node, value in self.watched() if value != self.told[number]]
        for number, value in rows:
            self.told[number] = value
        return rows

    def clone(self):
        """Returns a store with the same forests, steps, watches and values told last, independent afterwards."""
        double = store_of(self.forests)
        double.total = self.total
        double.past = list(self.past)
        double.future = list(self.future)
        double.watches = dict(self.watches)
        double.told = dict(self.told)
        double.last_number = self.last_number
        return double


def store_of(forests):
    """Returns a store with these forests, without steps, total cost and watches."""
    store = Store()
    store.forests = dict(forests)
    return store
