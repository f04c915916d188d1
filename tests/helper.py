"""What several tests need."""

from fascicle.errors import Malformed, Oversized
from fascicle.lexer import tokens
from fascicle.parser import parse

NESTING = ("Oversized", "nesting")
DEPTH = ("Oversized", "depth")


def malformed(at):
    """What `outcome` gives for a text that is malformed at an index."""
    return ("Malformed", "m", at)


def outcome(read, text):
    """Return what a function reads from a text, or a tuple that tells the error."""
    try:
        return read(text, "m")
    except Malformed as e:
        return ("Malformed", e.module, e.at)
    except Oversized as e:
        return ("Oversized", e.limit)


def lexed(text):
    return outcome(tokens, text)


def parsed(text):
    return outcome(parse, text)


def expression(text):
    """Return the tree of an expression: the operand of a let, or the refusal."""
    found = outcome(parse, "let v=" + text + ";")
    if isinstance(found, tuple):
        return found
    (statement,) = found
    assert statement[0] == "let" and statement[1] == "v" and statement[3] == 0
    return statement[2]
