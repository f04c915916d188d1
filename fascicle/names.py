"""New names for the variables of linked modules."""

from fascicle.errors import BadOption
from fascicle.lexer import LONGEST_WORD, RESERVED
from fascicle.scope import declarations
from fascicle.trees import blocks_of, expressions_of
from fascicle.uses import block_uses

LETTERS = "abcdefghijklmnopqrstuvwxyz"


def names_for(linked, naming):
    """Return the dict from the numbers of variables to their new names."""
    if naming == "plain":
        return plain_names(linked.variables())
    if naming == "kept":
        return kept_names(linked.variables())
    if naming == "short":
        return short_names(linked)
    raise BadOption("naming")


def plain_names(variables):
    """Return the dict from the numbers of variables to names that are made of the numbers."""
    return {number: f"v{number}" for number in range(len(variables))}


def kept_names(variables):
    """Return the dict from the numbers of variables to their own names, with endings behind those that are taken."""
    names = {}
    taken = {}
    endings = {}
    for number, (_, name, _) in enumerate(variables):
        kept = name
        while kept in taken:
            # A name that is taken stays taken, so what has been tried for a name need not be tried again.
            endings[name] = endings.get(name, 0) + 1
            kept = with_ending(name, f"_{endings[name]}")
        taken[kept] = True
        names[number] = kept
    return names


def with_ending(name, ending):
    """Return a name with an ending, cut so that both together are not too long."""
    return name[:LONGEST_WORD - len(ending)] + ending


def short_name(index):
    """Return the short name with an index: a to z, then aa, ab and so on."""
    name = ""
    rest = index
    while rest >= 0:
        name = LETTERS[rest % len(LETTERS)] + name
        rest = rest // len(LETTERS) - 1
    return name


def short_names(linked):
    """Return the dict from the numbers of the variables that linked modules declare to short names."""
    namer = Namer()
    namer.name_block([statement for _, statement in linked.statements()])
    return namer.names


class Namer:
    """Gives the variables of scopes short names, outer scopes first."""

    def __init__(self):
        self.names = {}

    def name_scope(self, numbers, occurring):
        """Name the variables of a scope, in which certain variables occur."""
        # Only outer variables have names already; those of the scope and of inner ones have none yet.
        taken = {self.names[number]: True for number in occurring if number in self.names}
        index = 0
        for number in numbers:
            while short_name(index) in RESERVED or short_name(index) in taken:
                index += 1
            self.names[number] = short_name(index)
            index += 1

    def name_block(self, block):
        """Name the variables of a block, or of the top, and those of the scopes inside it."""
        self.name_scope([declaration[1] for declaration in declarations(block)], block_uses(block))
        for statement in block:
            self.name_inside(statement)

    def name_inside(self, tree):
        """Name the variables of the scopes inside an expression or a statement."""
        kind = tree[0]
        if kind == "lambda":
            self.name_scope(tree[1], block_uses(tree[2]))
        elif kind == "fun":
            self.name_scope(tree[2], block_uses(tree[3]))
        elif kind == "try":
            self.name_scope((tree[2],), block_uses(tree[3]))
        for e in expressions_of(tree):
            self.name_inside(e)
        for block in blocks_of(tree):
            self.name_block(block)
