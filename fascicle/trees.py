"""The trees of expressions and statements: what is in them, how deep they are, and rebuilding them."""

WITH_ONE_EXPRESSION = ("ask", "not", "do", "tell", "throw", "return")
WITH_TWO_EXPRESSIONS = ("add", "sub", "mul", "lt", "eq", "and", "or")


def expressions_of(tree):
    """Return the tuple of the expressions directly in a tree, from left to right."""
    kind = tree[0]
    if kind in WITH_ONE_EXPRESSION or kind == "if" or kind == "repeat":
        return (tree[1],)
    if kind in WITH_TWO_EXPRESSIONS:
        return (tree[1], tree[2])
    if kind == "let" or kind == "set":
        return (tree[2],)
    if kind == "call":
        return (tree[1], *tree[2])
    return ()


def blocks_of(tree):
    """Return the tuple of the blocks directly in a tree, from left to right."""
    kind = tree[0]
    if kind == "block":
        return (tree[1],)
    if kind == "lambda" or kind == "repeat":
        return (tree[2],)
    if kind == "fun":
        return (tree[3],)
    if kind == "if":
        return (tree[2], tree[3])
    if kind == "try":
        return (tree[1], tree[3])
    return ()


def parts(tree):
    """Return the list of the expressions and statements directly in a tree, from left to right."""
    # In every tree that has both, the expressions stand before the blocks.
    found = list(expressions_of(tree))
    for block in blocks_of(tree):
        found.extend(block)
    return found


def deeper_than(tree, levels):
    """Return True if an item, a statement or an expression has more than a number of levels."""
    # Long chains make trees of some thousand levels, so the search ends with the levels allowed.
    if levels == 0:
        return True
    for part in parts(tree):
        if deeper_than(part, levels - 1):
            return True
    return False


def rebuilt(tree, change_expression, change_block):
    """Return a tree in which the expressions and blocks directly in it have been changed by two functions."""
    kind = tree[0]
    if kind in WITH_ONE_EXPRESSION:
        return (kind, change_expression(tree[1]), *tree[2:])
    if kind in WITH_TWO_EXPRESSIONS:
        return (kind, change_expression(tree[1]), change_expression(tree[2]))
    if kind == "let" or kind == "set":
        return (kind, tree[1], change_expression(tree[2]), tree[3])
    if kind == "call":
        return ("call", change_expression(tree[1]), tuple([change_expression(argument) for argument in tree[2]]))
    if kind == "lambda":
        return ("lambda", tree[1], change_block(tree[2]))
    if kind == "fun":
        return ("fun", tree[1], tree[2], change_block(tree[3]), tree[4])
    if kind == "if":
        return ("if", change_expression(tree[1]), change_block(tree[2]), change_block(tree[3]), tree[4])
    if kind == "repeat":
        return ("repeat", change_expression(tree[1]), change_block(tree[2]), tree[3])
    if kind == "try":
        return ("try", change_block(tree[1]), tree[2], change_block(tree[3]), tree[4])
    if kind == "block":
        return ("block", change_block(tree[1]), tree[2])
    return tree
