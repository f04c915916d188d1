"""The depth of the trees of expressions and statements."""

WITH_ONE_PART = ("ask", "not", "do", "tell", "throw", "return")
WITH_TWO_PARTS = ("add", "sub", "mul", "lt", "eq", "and", "or")


def deeper_than(tree, levels):
    """Return True if an item, a statement or an expression has more than a number of levels."""
    # Long chains make trees of some thousand levels, so the search ends with the levels allowed.
    if levels == 0:
        return True
    for part in parts(tree):
        if deeper_than(part, levels - 1):
            return True
    return False


def parts(tree):
    """Return the tuple of the expressions and statements directly in a tree, from left to right."""
    kind = tree[0]
    if kind in WITH_ONE_PART:
        return (tree[1],)
    if kind in WITH_TWO_PARTS:
        return (tree[1], tree[2])
    if kind == "let" or kind == "set":
        return (tree[2],)
    if kind == "call":
        return (tree[1], *tree[2])
    if kind == "lambda":
        return tree[2]
    if kind == "fun":
        return tree[3]
    if kind == "block":
        return tree[1]
    if kind == "if":
        return (tree[1], *tree[2], *tree[3])
    if kind == "repeat":
        return (tree[1], *tree[2])
    if kind == "try":
        return (*tree[1], *tree[3])
    return ()
