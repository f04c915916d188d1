"""What several tests need."""

from fascicle.errors import Malformed, Oversized, Refused
from fascicle.lexer import tokens
from fascicle.meaning import run
from fascicle.parser import parse

NESTING = ("Oversized", "nesting")
DEPTH = ("Oversized", "depth")

KIND = ("error", "kind")
DEEP = ("error", "deep")
EARLY = ("error", "early")

FIELDS = {
    "Malformed": ("module", "at"), "Oversized": ("limit",), "NoModule": ("name",), "NoExport": ("module", "name"),
    "Clashing": ("module", "name"), "Unknown": ("module", "name"), "Fixed": ("module", "name"),
    "Misused": ("module", "name"), "BadOption": ("option",),
}


def malformed(at):
    """What `outcome` gives for a text that is malformed at an index."""
    return ("Malformed", "m", at)


def outcome(read, text):
    """Return what a function reads from a text, or a tuple that tells the error."""
    try:
        return read(text, "m")
    except Malformed as e:
        return ("Malformed", e.module, e.at)
    except Oversized as e:
        return ("Oversized", e.limit)


def lexed(text):
    return outcome(tokens, text)


def parsed(text):
    return outcome(parse, text)


def expression(text):
    """Return the tree of an expression: the operand of a let, or the refusal."""
    found = outcome(parse, "let v=" + text + ";")
    if isinstance(found, tuple):
        return found
    (statement,) = found
    assert statement[0] == "let" and statement[1] == "v" and statement[3] == 0
    return statement[2]


def refusal(act, *arguments):
    """Return a tuple that tells the error that a call raises, or None if it raises none."""
    try:
        act(*arguments)
    except Refused as e:
        name = type(e).__name__
        return (name, *[getattr(e, field) for field in FIELDS[name]])
    return None


def told(text, answers=()):
    """Run a module; return the list of what it asks and tells, and behind it the end unless it is done."""
    events, end, _ = run({"m": text}, "m", answers=answers)
    found = [value for _, value, _ in events]
    return found if end == ("done",) else [*found, end]


def value(text, before=""):
    """Return the shown form of the value of an expression, or the end of the run, behind some statements."""
    (found,) = told(f"{before} tell {text};")
    return found


def thrown(found):
    """The end of a run that a value has ended."""
    return ("thrown", found)
