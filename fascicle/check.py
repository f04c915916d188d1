"""Checking modules: which names they declare, export, import and use."""

from fascicle.trees import parts
from fascicle.errors import Clashing, Fixed, Misused, NoExport, Unknown
from fascicle.graph import Graph, exported_pairs, statements_of
from fascicle.scope import Scope, declarations


def checked(modules, entry):
    """Return the graph of an entry, or raise the first error of its modules."""
    graph = Graph(modules, entry)
    for module in graph.order():
        check_module(graph, module)
    return graph


def check_module(graph, module):
    """Check a module: its top, its exports, its imports and its statements."""
    items = graph.module_items(module)
    top = Scope(module, None)
    for item in items:
        declare_item(item, top)
    check_exports(items, top)
    check_searches(graph, items)
    for statement in statements_of(items):
        check_tree(graph, statement, top)


def declare(kind, name, scope):
    """Declare a name of a kind in a scope that may not declare it already."""
    if scope.declares(name):
        raise Clashing(scope.module, name)
    scope.declare(name, kind)


def declare_item(item, top):
    """Declare the names that an item declares at the top of its module."""
    if item[0] in ("let", "fun"):
        declare(item[0], item[1], top)
    elif item[0] == "space":
        declare("space", item[2], top)
    elif item[0] == "import":
        for _, second in item[2]:
            declare("import", second, top)


def check_exports(items, top):
    """Check, item by item, that exported names are declared, and that no name is exported twice."""
    exported = {}
    for item in items:
        if item[0] == "export":
            for first, _ in item[1]:
                check_variable(first, top)
        for _, second in exported_pairs(item):
            if second in exported:
                raise Clashing(top.module, second)
            exported[second] = True


def check_searches(graph, items):
    """Check that other modules export what is imported and exported from them."""
    for item in items:
        if item[0] in ("import", "from"):
            for first, _ in item[2]:
                check_search(graph, item[1], first)


def check_search(graph, other, name):
    """Check that the search for a name in another module gives a variable."""
    if graph.resolve(other, name) is None:
        raise NoExport(other, name)


def check_tree(graph, tree, scope):
    """Check a statement or an expression in a scope, its parts from left to right."""
    kind = tree[0]
    if kind == "var":
        check_variable(tree[1], scope)
    elif kind == "member":
        check_member(graph, tree, scope)
    elif kind == "lambda":
        check_function(graph, tree[1], tree[2], scope)
    elif kind == "fun":
        check_function(graph, tree[2], tree[3], scope)
    elif kind == "block":
        check_block(graph, tree[1], scope)
    elif kind == "if":
        check_tree(graph, tree[1], scope)
        check_block(graph, tree[2], scope)
        check_block(graph, tree[3], scope)
    elif kind == "repeat":
        check_tree(graph, tree[1], scope)
        check_block(graph, tree[2], scope)
    elif kind == "try":
        check_try(graph, tree, scope)
    else:
        if kind == "set":
            check_target(tree[1], scope)
        for part in parts(tree):
            check_tree(graph, part, scope)


def known_kind(name, scope):
    """Return the kind of what a name stands for in a scope."""
    kind = scope.meaning(name)
    if kind is None:
        raise Unknown(scope.module, name)
    return kind


def check_variable(name, scope):
    """Check a name that must stand for a variable."""
    if known_kind(name, scope) == "space":
        raise Misused(scope.module, name)


def check_member(graph, tree, scope):
    """Check the space of a member, and that its module exports the name behind the dot."""
    if known_kind(tree[1], scope) != "space":
        raise Misused(scope.module, tree[1])
    check_search(graph, graph.spaces(scope.module)[tree[1]], tree[2])


def check_target(name, scope):
    """Check the target of an assignment."""
    check_variable(name, scope)
    if known_kind(name, scope) in ("fun", "import"):
        raise Fixed(scope.module, name)


def check_function(graph, parameters, block, scope):
    """Check the parameters and the block of a function."""
    inner = scope.inner()
    for name in parameters:
        declare("param", name, inner)
    check_block(graph, block, inner)


def check_try(graph, tree, scope):
    """Check both blocks of a try, the second one inside the scope of the name behind catch."""
    check_block(graph, tree[1], scope)
    inner = scope.inner()
    declare("catch", tree[2], inner)
    check_block(graph, tree[3], inner)


def check_block(graph, block, scope):
    """Check a block that lies in a scope."""
    inner = scope.inner()
    for declaration in declarations(block):
        declare(declaration[0], declaration[1], inner)
    for statement in block:
        check_tree(graph, statement, inner)
