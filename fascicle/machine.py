"""The state of a run: variables, functions, events, answers and the budget."""

from fascicle.errors import Thrown, Weary
from fascicle.scope import Tops, declarations

BUDGET = 200
# Integers are those from 0 to one below this.
INTEGERS = 65536
# A repeat runs its block less often than this.
REPEATS = 8

EARLY = ("error", "early")


class Variable:
    """A variable of a scope that has been entered, with or without a value."""

    def __init__(self):
        self.begun = False
        self.value = None

    def begin(self, value):
        """Give the variable its value."""
        self.begun = True
        self.value = value

    def read(self):
        """Return the value, or throw that there is none yet."""
        if not self.begun:
            raise Thrown(EARLY)
        return self.value

    def change(self, value):
        """Put another value in the place of the one that the variable has."""
        if not self.begun:
            raise Thrown(EARLY)
        self.value = value


class Function:
    """A function, which keeps the scope around it."""

    def __init__(self, parameters, block, scope):
        self.parameters = parameters
        self.block = block
        self.scope = scope


class Machine:
    """The state of a run: its variables, what it has told, and what is left to it."""

    def __init__(self, graph, answers):
        self.events = []
        self.calls = 0
        self.tops = Tops(graph)
        self._answers = list(answers)
        self._asked = 0
        self._budget = BUDGET
        for module in graph.order():
            declare_all(graph.module_items(module), self.tops.top(module))
        self.tops.declare_imports()

    def take(self):
        """Take one from the budget."""
        if self._budget == 0:
            raise Weary()
        self._budget -= 1

    def answer(self):
        """Return the next answer from outside."""
        if self._asked == len(self._answers):
            return 0
        self._asked += 1
        return self._answers[self._asked - 1] % INTEGERS

    def tell(self, kind, value, module, at):
        """Make an event of a kind at a place."""
        self.events.append((kind, shown(value), (module, at)))


def shown(value):
    """Return the shown form of a value."""
    if isinstance(value, Function):
        return "fun"
    return value


def declare_all(items, scope):
    """Declare the lets and functions among items or statements in the scope that they stand in."""
    for declaration in declarations(items):
        variable = Variable()
        if declaration[0] == "fun":
            variable.begin(Function(declaration[2], declaration[3], scope))
        scope.declare(declaration[1], variable)


def declare_value(name, value, scope):
    """Declare a variable that has a value from the beginning."""
    variable = Variable()
    variable.begin(value)
    scope.declare(name, variable)
