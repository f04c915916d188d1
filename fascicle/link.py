"""Linking the modules of an entry: every name becomes the number of its variable."""

from fascicle.check import checked
from fascicle.trees import WITH_TWO_EXPRESSIONS
from fascicle.graph import statements_of
from fascicle.scope import Tops, declarations


class Linked:
    """Linked modules: their statements, what they export, and their variables."""

    def __init__(self, statements, exports, variables):
        self._statements = list(statements)
        self._exports = list(exports)
        self._variables = list(variables)

    def statements(self):
        """Return the list of the pairs of a module and a statement."""
        return list(self._statements)

    def exports(self):
        """Return the list of the pairs of a name and a number, ascending by name."""
        return list(self._exports)

    def variables(self):
        """Return the list of the triples of a kind, a name and a module, by number."""
        return list(self._variables)

    def with_statements(self, statements):
        """Return the same linked modules with other statements."""
        return Linked(statements, self._exports, self._variables)


class Linker:
    """The variables that have been numbered, by numbers and by the names at the tops."""

    def __init__(self, graph):
        self.numbered = []
        self.tops = Tops(graph)
        for module in graph.order():
            self.declare_all(graph.module_items(module), self.tops.top(module))
        self.tops.declare_imports()

    def declare(self, kind, name, scope):
        """Number a variable that a scope declares; return its number."""
        number = len(self.numbered)
        self.numbered.append((kind, name, scope.module))
        scope.declare(name, number)
        return number

    def declare_all(self, items, scope):
        """Number the lets and functions among the items or statements of a scope."""
        for declaration in declarations(items):
            self.declare(declaration[0], declaration[1], scope)


def link(modules, entry):
    """Check and link the modules of an entry."""
    graph = checked(modules, entry)
    linker = Linker(graph)
    statements = []
    for module in graph.order():
        top = linker.tops.top(module)
        for statement in statements_of(graph.module_items(module)):
            statements.append((module, link_statement(linker, statement, top)))
    exports = [(name, linker.tops.exported(entry, name)) for name in graph.exports(entry)]
    return Linked(statements, exports, linker.numbered)


def link_statement(linker, statement, scope):
    """Return a statement with the numbers of the variables in a scope."""
    kind, at = statement[0], statement[-1]
    if kind == "let" or kind == "set":
        number = scope.meaning(statement[1])
        return (kind, number, link_expression(linker, statement[2], scope), at)
    if kind == "fun":
        number = scope.meaning(statement[1])
        parameters, block = link_function(linker, statement[2], statement[3], scope)
        return ("fun", number, parameters, block, at)
    if kind == "if":
        condition = link_expression(linker, statement[1], scope)
        first = link_block(linker, statement[2], scope)
        return ("if", condition, first, link_block(linker, statement[3], scope), at)
    if kind == "repeat":
        times = link_expression(linker, statement[1], scope)
        return ("repeat", times, link_block(linker, statement[2], scope), at)
    if kind == "try":
        return link_try(linker, statement, scope)
    if kind == "block":
        return ("block", link_block(linker, statement[1], scope), at)
    return (kind, link_expression(linker, statement[1], scope), at)


def link_try(linker, statement, scope):
    """Return a try with the numbers of its variables."""
    first = link_block(linker, statement[1], scope)
    inner = scope.inner()
    number = linker.declare("catch", statement[2], inner)
    return ("try", first, number, link_block(linker, statement[3], inner), statement[4])


def link_block(linker, block, scope):
    """Return a block that lies in a scope with the numbers of its variables."""
    inner = scope.inner()
    linker.declare_all(block, inner)
    return tuple([link_statement(linker, statement, inner) for statement in block])


def link_function(linker, parameters, block, scope):
    """Return the numbers of the parameters of a function, and its block with those of its variables."""
    inner = scope.inner()
    numbers = tuple([linker.declare("param", name, inner) for name in parameters])
    return numbers, link_block(linker, block, inner)


def link_expression(linker, e, scope):
    """Return an expression with the numbers of the variables in a scope."""
    kind = e[0]
    if kind == "var":
        return ("var", scope.meaning(e[1]))
    if kind == "member":
        return ("var", linker.tops.member(scope.module, e[1], e[2]))
    if kind == "lambda":
        parameters, block = link_function(linker, e[1], e[2], scope)
        return ("lambda", parameters, block)
    if kind == "call":
        function = link_expression(linker, e[1], scope)
        return ("call", function, tuple([link_expression(linker, argument, scope) for argument in e[2]]))
    if kind in WITH_TWO_EXPRESSIONS:
        left = link_expression(linker, e[1], scope)
        return (kind, left, link_expression(linker, e[2], scope))
    if kind == "not":
        return ("not", link_expression(linker, e[1], scope))
    if kind == "ask":
        return ("ask", link_expression(linker, e[1], scope), e[2])
    return e
