"""A second, slower program for the same document, to compare the first one with.

The searches follow the words of point 3.2 one by one. Linked modules are run as what they are: by
the numbers of their variables, each tree turned into a function of Python's.
"""

from fascicle.parser import parse

TWO = "two"


def order(modules, entry):
    """The order of point 3.1, for modules that are all there."""
    found, reached = [], []

    def reach(name):
        if name not in reached:
            reached.append(name)
            for item in parse(modules[name], name):
                if item[0] in ("need", "space", "import", "from", "star"):
                    reach(item[1])
            found.append(name)

    reach(entry)
    return found


def search(modules, name, wanted, before):
    """Search as point 3.2 says: a pair of a module and a name, None for nothing, or TWO."""
    if (name, wanted) in before:
        return None
    before.append((name, wanted))
    items = parse(modules[name], name)
    for item in items:
        if item[0] not in ("export", "from"):
            continue
        for first, second in item[-2]:
            if second != wanted:
                continue
            if item[0] == "from":
                return search(modules, item[1], first, before)
            if any(other[0] in ("let", "fun") and other[1] == first for other in items):
                return (name, first)
            imports = [(other[1], there) for other in items if other[0] == "import" for there, here in other[2] if here == first]
            return search(modules, *imports[-1], before) if imports else None
    found = []
    for item in items:
        if item[0] == "star":
            inside = search(modules, item[1], wanted, before)
            if inside == TWO:
                return TWO
            if inside is not None and inside not in found:
                found.append(inside)
    return TWO if len(found) > 1 else found[0] if found else None


class Raised(Exception):
    pass


class Returned(Exception):
    pass


class Ended(Exception):
    pass


KIND, DEEP, EARLY = ("error", "kind"), ("error", "deep"), ("error", "early")
MISSING = object()


def is_integer(found):
    return type(found) is int


def shown(found):
    return "fun" if callable(found) else found


class Runner:
    """Runs linked modules. A frame is a list of dicts from numbers to values, the innermost first."""

    def __init__(self, linked, answers):
        self.linked = linked
        self.answers = list(answers)
        self.events = []
        self.budget = 200
        self.calls = 0

    def run(self):
        top = [{}]
        pairs = self.linked.statements()
        for module, statement in pairs:
            self.enter(statement, top, module)
        end = ("done",)
        try:
            for module, statement in pairs:
                self.statement(statement, top, module)
        except Raised as e:
            end = ("thrown", shown(e.args[0]))
        except Ended:
            end = ("weary",)
        exports = {}
        for name, number in self.linked.exports():
            found = top[0][number]
            exports[name] = ("early",) if found is MISSING else ("value", shown(found))
        return self.events, end, exports

    def enter(self, statement, frame, module):
        if statement[0] == "let":
            frame[0][statement[1]] = MISSING
        if statement[0] == "fun":
            frame[0][statement[1]] = self.function(statement[2], statement[3], frame, module)

    def function(self, parameters, block, frame, module):
        def act(arguments):
            more = list(arguments) + [None] * len(parameters)
            try:
                self.block(block, [dict(zip(parameters, more)), *frame], module)
            except Returned as e:
                return e.args[0]
            return None
        return act

    def block(self, block, frame, module):
        frame = [{}, *frame]
        for statement in block:
            self.enter(statement, frame, module)
        for statement in block:
            self.statement(statement, frame, module)

    def take(self):
        if not self.budget:
            raise Ended
        self.budget -= 1

    def place(self, number, frame):
        (found,) = [names for names in frame if number in names]
        return found

    def statement(self, statement, frame, module):
        kind = statement[0]
        if kind == "fun":
            return
        if kind == "block":
            self.block(statement[1], frame, module)
        elif kind == "try":
            calls = self.calls
            try:
                self.block(statement[1], frame, module)
                return
            except Raised as e:
                self.calls = calls
                bound = e.args[0]
            self.block(statement[3], [{statement[2]: bound}, *frame], module)
        elif kind in ("let", "set"):
            found = self.value(statement[2], frame, module)
            place = self.place(statement[1], frame)
            if kind == "set" and place[statement[1]] is MISSING:
                raise Raised(EARLY)
            place[statement[1]] = found
        else:
            found = self.value(statement[1], frame, module)
            self.act(kind, found, statement, frame, module)

    def act(self, kind, found, statement, frame, module):
        if kind == "tell":
            self.events.append(("tell", shown(found), (module, statement[2])))
        elif kind == "throw":
            raise Raised(found)
        elif kind == "return":
            raise Returned(found)
        elif kind == "if":
            if found is not True and found is not False:
                raise Raised(KIND)
            self.block(statement[2] if found else statement[3], frame, module)
        elif kind == "repeat":
            if not is_integer(found):
                raise Raised(KIND)
            for _ in range(found & 7):
                self.take()
                self.block(statement[2], frame, module)

    def value(self, e, frame, module):
        kind = e[0]
        if kind in ("int", "bool"):
            return e[1]
        if kind == "none":
            return None
        if kind == "var":
            found = self.place(e[1], frame)[e[1]]
            if found is MISSING:
                raise Raised(EARLY)
            return found
        if kind == "lambda":
            return self.function(e[1], e[2], frame, module)
        if kind in ("and", "or"):
            for operand in e[1:]:
                found = self.value(operand, frame, module)
                if found is not True and found is not False:
                    raise Raised(KIND)
                if found is (kind == "or"):
                    return found
            return found
        if kind == "call":
            return self.call([self.value(part, frame, module) for part in (e[1], *e[2])])
        if kind == "ask":
            found = self.value(e[1], frame, module)
            self.events.append(("ask", shown(found), (module, e[2])))
            return self.answers.pop(0) & 65535 if self.answers else 0
        return self.operation(kind, [self.value(part, frame, module) for part in e[1:]])

    def call(self, found):
        if not callable(found[0]):
            raise Raised(KIND)
        if self.calls >= 8:
            raise Raised(DEEP)
        self.take()
        self.calls += 1
        result = found[0](found[1:])
        self.calls -= 1
        return result

    def operation(self, kind, found):
        if kind == "not":
            if found[0] is not True and found[0] is not False:
                raise Raised(KIND)
            return found[0] is False
        left, right = found
        if kind == "eq":
            return type(left) is type(right) and left == right
        if not is_integer(left) or not is_integer(right):
            raise Raised(KIND)
        if kind == "lt":
            return left < right
        return {"add": left + right, "sub": left - right, "mul": left * right}[kind] & 65535


def numbers(tree):
    """The set of the numbers of variables that are read or assigned somewhere in a linked tree or block."""
    if not isinstance(tree, tuple) or not tree:
        return set()
    own = {tree[1]} if tree[0] in ("var", "set") else set()
    return own.union(*[numbers(part) for part in tree])


HAVING_INDEXES = ("let", "fun", "set", "do", "tell", "throw", "return", "if", "repeat", "try", "block", "ask")


def is_block(part):
    """Whether a part of a tree is a block, or the arguments of a call."""
    return isinstance(part, tuple) and (not part or isinstance(part[0], tuple))


def renamed(tree, names):
    """A linked tree with names in the place of numbers, and without indexes."""
    kind = tree[0]
    if kind in ("int", "bool", "none"):
        return tree
    if kind in ("var", "let", "set"):
        return (kind, names[tree[1]], *[renamed(part, names) for part in tree[2:3]])
    if kind == "lambda":
        return (kind, tuple(names[number] for number in tree[1]), *[all_renamed(part, names) for part in tree[2:]])
    if kind == "fun":
        return (kind, names[tree[1]], tuple(names[number] for number in tree[2]), all_renamed(tree[3], names))
    if kind == "try":
        return (kind, all_renamed(tree[1], names), names[tree[2]], all_renamed(tree[3], names))
    parts = tree[1:-1] if kind in HAVING_INDEXES else tree[1:]
    return (kind, *[all_renamed(part, names) if is_block(part) else renamed(part, names) for part in parts])


def all_renamed(trees, names):
    return tuple(renamed(tree, names) for tree in trees)


def without_indexes(tree):
    """A tree, or a part of it, without its indexes."""
    if not isinstance(tree, tuple) or not tree:
        return tree
    parts = tree[:-1] if tree[0] in HAVING_INDEXES else tree
    return tuple(without_indexes(part) for part in parts)


def indexes(trees):
    """The list of the indexes of the statements and asks in some trees, each before those in it."""
    found = []
    for tree in trees:
        if isinstance(tree, tuple) and tree:
            found += [tree[-1]] if tree[0] in HAVING_INDEXES else []
            found += indexes(tree)
    return found


def kinds(trees):
    """The set of the kinds of some trees and of what is in them."""
    found = set()
    for tree in trees:
        if isinstance(tree, tuple) and tree:
            found |= kinds(tree) | ({tree[0]} if isinstance(tree[0], str) and tree[0] in KINDS else set())
    return found


KINDS = HAVING_INDEXES + ("int", "bool", "none", "var", "lambda", "call", "not", "add", "sub", "mul", "lt", "eq", "and", "or")
