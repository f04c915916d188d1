"""The modules that an entry needs, and what their exports stand for."""

from fascicle.errors import NoModule, Oversized
from fascicle.parser import parse
from fascicle.scope import declarations

MOST_MODULES = 40
NAMING_A_MODULE = ("need", "space", "import", "from", "star")
NO_STATEMENTS = ("need", "space", "import", "from", "star", "export")


class Graph:
    """All modules that an entry needs, as they have been read."""

    def __init__(self, modules, entry):
        self.entry = entry
        self._items = {}
        self._order = []
        self._reach(modules, entry)
        self._imported = {name: imports_of(self._items[name]) for name in self._order}
        self._spaces = {name: spaces_of(self._items[name]) for name in self._order}
        self._stars = {name: stars_of(self._items[name]) for name in self._order}
        self._pairs = {name: self._steps_of_pairs(name) for name in self._order}

    def _reach(self, modules, name):
        """Read a module that has not been reached before, and then those that it names."""
        if name not in modules:
            raise NoModule(name)
        if len(self._items) == MOST_MODULES:
            raise Oversized("modules")
        items = parse(modules[name], name)
        self._items[name] = items
        for item in items:
            if item[0] in NAMING_A_MODULE and item[1] not in self._items:
                self._reach(modules, item[1])
        self._order.append(name)

    def _steps_of_pairs(self, name):
        """Return the dict from the names in the pairs of a module to the steps of searches there."""
        steps = {}
        declared = {declaration[1]: True for declaration in declarations(self._items[name])}
        for item in self._items[name]:
            for first, second in exported_pairs(item):
                # The first pair counts, also where it stands for nothing.
                if second in steps:
                    continue
                if item[0] == "from":
                    steps[second] = ([], [(item[1], first)])
                elif first in declared:
                    steps[second] = ([(name, first)], [])
                elif first in self._imported[name]:
                    steps[second] = ([], [self._imported[name][first]])
                else:
                    steps[second] = ([], [])
        return steps

    def _step(self, name, wanted):
        """Return what the search for a name in a module finds, and the searches that it goes on with.

        Both are lists, of variables and of searches; a search is the pair of a module and a name.
        """
        if wanted in self._pairs[name]:
            return self._pairs[name][wanted]
        return [], [(other, wanted) for other in self._stars[name]]

    def order(self):
        """Return the list of the names of the modules in the order in which they run."""
        return list(self._order)

    def module_items(self, name):
        """Return the list of the items of a module."""
        return list(self._items[name])

    def declared(self, name):
        """Return the list of the names that the lets and functions at the top of a module declare."""
        return [declaration[1] for declaration in declarations(self._items[name])]

    def imported(self, name):
        """Return the dict from the local names of imports to the pairs of a module and its export."""
        return dict(self._imported[name])

    def spaces(self, name):
        """Return the dict from the names of the spaces of a module to modules."""
        return dict(self._spaces[name])

    def resolve(self, name, wanted):
        """Return the pair of the module and the local name that an export stands for, or None."""
        # Whatever a search finds, the searches around it find too: pairs hand it on, stars gather
        # it, and two variables anywhere are two for all. So the order of the searches is free.
        found = []
        searched = {(name, wanted): True}
        waiting = [(name, wanted)]
        while waiting:
            module, export = waiting.pop()
            variables, searches = self._step(module, export)
            for variable in variables:
                if variable not in found:
                    found.append(variable)
            for search in searches:
                if search not in searched:
                    searched[search] = True
                    waiting.append(search)
        if len(found) == 1:
            return found[0]
        return None

    def exports(self, name):
        """Return the ascending list of the names that a module exports."""
        candidates = {}
        for module in self._behind_stars(name):
            for wanted in self._pairs[module]:
                candidates[wanted] = True
        return sorted([wanted for wanted in candidates if self.resolve(name, wanted) is not None])

    def _behind_stars(self, name):
        """Return the list of a module and all modules that its stars lead to."""
        reached = {name: True}
        waiting = [name]
        while waiting:
            module = waiting.pop()
            for other in self._stars[module]:
                if other not in reached:
                    reached[other] = True
                    waiting.append(other)
        return list(reached)


def exported_pairs(item):
    """Return the pairs of an item export or from; other items have none."""
    if item[0] == "export":
        return item[1]
    if item[0] == "from":
        return item[2]
    return ()


def statements_of(items):
    """Return the list of the statements among the items of a module."""
    return [item for item in items if item[0] not in NO_STATEMENTS]


def imports_of(items):
    """Return the dict from the local names of the imports among items to modules and names."""
    found = {}
    for item in items:
        if item[0] == "import":
            for first, second in item[2]:
                found[second] = (item[1], first)
    return found


def spaces_of(items):
    """Return the dict from the names of the spaces among items to modules."""
    return {item[2]: item[1] for item in items if item[0] == "space"}


def stars_of(items):
    """Return the list of the modules of the stars among items."""
    return [item[1] for item in items if item[0] == "star"]
