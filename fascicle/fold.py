"""Folding linked modules: what always has the same value becomes a constant."""

from fascicle.machine import INTEGERS, REPEATS
from fascicle.trees import rebuilt

CONSTANTS = ("int", "bool", "none")
ON_INTEGERS = ("add", "sub", "mul", "lt")
# These give a truth value or throw, so an operation that checks this for them may go.
GIVING_TRUTH = ("bool", "lt", "eq", "not", "and", "or")


def fold(linked):
    """Return the linked modules after folding."""
    return linked.with_statements([(module, fold_statement(statement)) for module, statement in linked.statements()])


def fold_statement(statement):
    """Return a statement after folding."""
    folded = rebuilt(statement, fold_expression, fold_block)
    if folded[0] == "if":
        return fold_if(folded)
    if folded[0] == "repeat":
        return fold_repeat(folded)
    return folded


def fold_block(block):
    """Return a block after folding."""
    return tuple([fold_statement(statement) for statement in block])


def fold_if(statement):
    """Return a choice between two blocks, or the block that is always taken; what is in it has been folded."""
    _, condition, first, second, at = statement
    if condition == ("bool", True):
        return ("block", first, at)
    if condition == ("bool", False):
        return ("block", second, at)
    return statement


def fold_repeat(statement):
    """Return a repetition, or an empty block if its block is never run; what is in it has been folded."""
    _, times, _, at = statement
    if times[0] == "int" and times[1] % REPEATS == 0:
        return ("block", (), at)
    return statement


def fold_expression(e):
    """Return an expression after folding."""
    folded = rebuilt(e, fold_expression, fold_block)
    kind = folded[0]
    if kind in ON_INTEGERS:
        return fold_integers(folded)
    if kind == "eq":
        return fold_comparison(folded)
    if kind == "not":
        return fold_negation(folded)
    if kind == "and" or kind == "or":
        return fold_choice(folded)
    return folded


def fold_integers(operation):
    """Return the result of an operation on two constant integers, or the operation if it has other operands."""
    kind, left, right = operation
    if left[0] != "int" or right[0] != "int":
        return operation
    if kind == "lt":
        return ("bool", left[1] < right[1])
    if kind == "add":
        return ("int", (left[1] + right[1]) % INTEGERS)
    if kind == "sub":
        return ("int", (left[1] - right[1]) % INTEGERS)
    return ("int", left[1] * right[1] % INTEGERS)


def fold_comparison(operation):
    """Return whether two constants are the same, or the comparison if it has other operands."""
    _, left, right = operation
    if left[0] in CONSTANTS and right[0] in CONSTANTS:
        # The kinds stand in the trees, so an integer and a truth value never are the same.
        return ("bool", left == right)
    return operation


def fold_negation(operation):
    """Return the opposite of a constant truth value, or the negation if it has another operand."""
    operand = operation[1]
    if operand[0] == "bool":
        return ("bool", not operand[1])
    return operation


def fold_choice(operation):
    """Return what decides an and or an or whose left operand is a constant, or the operation."""
    kind, left, right = operation
    if left[0] != "bool":
        return operation
    # True decides an or, and false an and, whatever the right operand is.
    if left[1] == (kind == "or"):
        return left
    if right[0] in GIVING_TRUTH:
        return right
    return operation
