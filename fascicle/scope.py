"""The scopes of a module: which names are declared where, and how they are looked up."""


class Scope:
    """The names that one scope of a module declares, and the scope around it.

    What a name stands for depends on who uses the scope: a kind where modules are checked, a
    number where they are linked, a variable where they are run.
    """

    def __init__(self, module, outer):
        self.module = module
        self._outer = outer
        self._meanings = {}

    def inner(self):
        """Return a new scope that lies directly inside this one."""
        return Scope(self.module, self)

    def declare(self, name, meaning):
        """Let a name stand for something in this scope."""
        self._meanings[name] = meaning

    def declares(self, name):
        """Return True if this scope itself declares a name."""
        return name in self._meanings

    def meaning(self, name):
        """Return what a name stands for, looked up from here outwards, or None."""
        scope = self
        while scope is not None:
            if scope.declares(name):
                return scope._meanings[name]
            scope = scope._outer
        return None


class Tops:
    """The scopes at the tops of all checked modules of a graph, and what stands for their variables."""

    def __init__(self, graph):
        self._graph = graph
        self._tops = {module: Scope(module, None) for module in graph.order()}
        self._spaces = {module: graph.spaces(module) for module in graph.order()}
        self._found = {}

    def top(self, module):
        """Return the scope at the top of a module."""
        return self._tops[module]

    def declare_imports(self):
        """Declare all imports, after the lets and functions of all tops have been declared.

        Modules may import in a circle, so no order would let this be done module by module.
        """
        for module in self._graph.order():
            imported = self._graph.imported(module)
            for name in imported:
                other, wanted = imported[name]
                self._tops[module].declare(name, self.exported(other, wanted))

    def exported(self, module, name):
        """Return what stands for the variable that an export of a module stands for."""
        if (module, name) not in self._found:
            owner, local = self._graph.resolve(module, name)
            self._found[(module, name)] = self._tops[owner].meaning(local)
        return self._found[(module, name)]

    def member(self, module, space, name):
        """Return what stands for the variable that a member of a space of a module stands for."""
        return self.exported(self._spaces[module][space], name)


def declarations(items):
    """Return the list of the lets and functions directly among items or statements, in order."""
    return [item for item in items if item[0] in ("let", "fun")]
