"""Bundles: the text of one module that does the same as the modules that an entry needs."""

from fascicle.dead import dead
from fascicle.errors import BadOption
from fascicle.fold import fold
from fascicle.link import link
from fascicle.names import names_for
from fascicle.printer import print_linked
from fascicle.shake import shake

PASSES = ("fold", "dead", "shake")


def bundle(modules, entry, *, passes=PASSES, naming="short", layout="tight"):
    """Return the pair of the text of a bundle and the list of its places."""
    linked = link(modules, entry)
    for name in passes:
        if name not in PASSES:
            raise BadOption("passes")
    for name in passes:
        linked = after_pass(linked, name)
    return print_linked(linked, names_for(linked, naming), layout)


def after_pass(linked, name):
    """Return linked modules after the pass with a name."""
    if name == "fold":
        return fold(linked)
    if name == "dead":
        return dead(linked)
    return shake(linked)


def origin(places, at):
    """Return the pair of the module and the index that the place with an index comes from, or None."""
    for index, module, source in places:
        if index == at:
            return (module, source)
    return None
