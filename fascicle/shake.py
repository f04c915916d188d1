"""Shaking: leaving out statements at the top that do nothing and declare what nothing else needs."""

from fascicle.errors import BadOption
from fascicle.uses import block_uses, expression_uses, statement_uses

# Evaluating these does nothing.
VALUES = ("int", "bool", "none", "lambda")


def shake(linked):
    """Return the linked modules without all statements that may be left out together."""
    return left_out(linked, removable(linked))


def removable(linked):
    """Return the ascending list of the indexes of all statements that may be left out together."""
    statements = statements_at_top(linked)
    leaving = {index: True for index, statement in enumerate(statements) if may_go(statement)}
    declaring = {}
    for index in leaving:
        for number in declared(statements[index]):
            declaring.setdefault(number, []).append(index)
    waiting = needed_numbers(linked, leaving)
    while len(waiting) > 0:
        number = waiting.pop()
        for index in declaring.pop(number, []):
            del leaving[index]
            waiting.extend(occurring(statements[index]))
    return list(leaving)


def accepts(linked, indexes):
    """Return True if the statements with these indexes may be left out."""
    statements = statements_at_top(linked)
    last = -1
    for index in indexes:
        if index <= last or index >= len(statements) or not may_go(statements[index]):
            return False
        last = index
    needed = {number: True for number in needed_numbers(linked, {index: True for index in indexes})}
    return not any([number in needed for index in indexes for number in declared(statements[index])])


def left_out(linked, indexes):
    """Return the linked modules without the statements with these indexes."""
    if not accepts(linked, indexes):
        raise BadOption("paper")
    leaving = {index: True for index in indexes}
    return linked.with_statements([pair for index, pair in enumerate(linked.statements()) if index not in leaving])


def statements_at_top(linked):
    """Return the list of the statements of linked modules, without their modules."""
    return [statement for _, statement in linked.statements()]


def may_go(statement):
    """Return True if a statement at the top may go, as long as nothing needs what it declares."""
    kind = statement[0]
    if kind == "let":
        return statement[2][0] in VALUES
    if kind == "do":
        return statement[1][0] in VALUES
    if kind == "block":
        return len(statement[1]) == 0
    return kind == "fun"


def declared(statement):
    """Return the list of the numbers that a statement declares at the top: one or none."""
    if statement[0] == "let" or statement[0] == "fun":
        return [statement[1]]
    return []


def occurring(statement):
    """Return the list of the numbers that occur in a statement at the top, its own declaration not included."""
    if statement[0] == "let":
        return expression_uses(statement[2])
    if statement[0] == "fun":
        return [*statement[2], *block_uses(statement[3])]
    return statement_uses(statement)


def needed_numbers(linked, leaving):
    """Return the list of the numbers that are exported or occur in a statement that is not leaving."""
    needed = [number for _, number in linked.exports()]
    for index, statement in enumerate(statements_at_top(linked)):
        if index not in leaving:
            needed.extend(occurring(statement))
    return needed
