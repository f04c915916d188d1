"""Leaving out statements that are never run because one before them always ends their block."""

from fascicle.trees import rebuilt


def dead(linked):
    """Return the linked modules without dead statements."""
    return linked.with_statements([(module, without_dead(statement)) for module, statement in linked.statements()])


def without_dead(tree):
    """Return an expression or a statement without the dead statements of all blocks in it."""
    return rebuilt(tree, without_dead, live_block)


def live_block(block):
    """Return a block without its dead statements and those in its statements."""
    kept = []
    ended = False
    for statement in block:
        # Declarations are in force in the whole block, wherever in it they stand.
        if not ended or statement[0] in ("let", "fun"):
            kept.append(without_dead(statement))
        ended = ended or always_ends(statement)
    return tuple(kept)


def always_ends(statement):
    """Return True if nothing behind a statement is run in the same block after it."""
    kind = statement[0]
    if kind == "return" or kind == "throw":
        return True
    if kind == "block":
        return block_ends(statement[1])
    if kind == "if":
        return block_ends(statement[2]) and block_ends(statement[3])
    return False


def block_ends(block):
    """Return True if a statement of a block always ends."""
    return any([always_ends(statement) for statement in block])
