"""Which variables occur in linked trees."""

from fascicle.trees import parts


def expression_uses(e):
    """Return the list of the numbers that occur in an expression, in order, each once."""
    return each_once(occurrences(e))


def statement_uses(statement):
    """Return the list of the numbers that occur in a statement, in order, each once."""
    return each_once(occurrences(statement))


def block_uses(block):
    """Return the list of the numbers that occur in a block, in order, each once."""
    return each_once(all_occurrences(block))


def each_once(numbers):
    """Return the list of the numbers without duplicates, in the order of their first occurrences."""
    return list({number: True for number in numbers})


def occurrences(tree):
    """Return the list of the numbers that occur in an expression or a statement, in order."""
    if tree[0] == "try":
        return [*all_occurrences(tree[1]), tree[2], *all_occurrences(tree[3])]
    return [*own_numbers(tree), *all_occurrences(parts(tree))]


def all_occurrences(trees):
    """Return the list of the numbers that occur in several trees, in order."""
    found = []
    for tree in trees:
        found.extend(occurrences(tree))
    return found


def own_numbers(tree):
    """Return the list of the numbers that stand in a tree before the trees directly in it."""
    kind = tree[0]
    if kind == "var" or kind == "let" or kind == "set":
        return [tree[1]]
    if kind == "fun":
        return [tree[1], *tree[2]]
    if kind == "lambda":
        return list(tree[1])
    return []
