"""Printing linked modules as the text of one module."""

from fascicle.errors import BadOption
from fascicle.lexer import WORD_CHARACTERS

LAYOUTS = ("tight", "lines")

SIGNS = {"add": "+", "sub": "-", "mul": "*", "lt": "<", "eq": "==", "and": "and", "or": "or"}

# What is printed is first made as a list of pieces. A piece is a token, the end of a line, or the
# index that the statement or the ask comes from whose first token is the next piece.
LINE_END = "\n"


class Page:
    """The text that has been printed so far, and the places in it."""

    def __init__(self, with_lines):
        self.places = []
        self._with_lines = with_lines
        self._printed = []
        self._length = 0
        self._origin = None

    def text(self):
        """Return the text."""
        return "".join(self._printed)

    def put_all(self, pieces, module):
        """Print the pieces of a module."""
        for piece in pieces:
            if isinstance(piece, int):
                self._origin = (module, piece)
            elif piece != LINE_END:
                self._put_token(piece)
            elif self._with_lines:
                self._add(LINE_END)

    def _put_token(self, token):
        """Print a token, behind a space if it would run together with the last one."""
        if token[0] in WORD_CHARACTERS and len(self._printed) > 0 and self._printed[-1][-1] in WORD_CHARACTERS:
            self._add(" ")
        if self._origin is not None:
            module, at = self._origin
            self.places.append((self._length, module, at))
            self._origin = None
        self._add(token)

    def _add(self, printed):
        """Add some characters to the text."""
        self._printed.append(printed)
        self._length += len(printed)


def print_linked(linked, names, layout):
    """Return the text of linked modules, in which variables have certain names, and the list of its places."""
    if layout not in LAYOUTS:
        raise BadOption("layout")
    page = Page(layout == "lines")
    for module, statement in linked.statements():
        page.put_all(statement_pieces(statement, names), module)
    page.put_all(export_pieces(linked.exports(), names), None)
    return page.text(), page.places


def export_pieces(exports, names):
    """Return the list of the pieces of all exports, which is empty if there are none."""
    if len(exports) == 0:
        return []
    pairs = separated([[names[number], "as", name] for name, number in exports])
    return ["export", "{", *pairs, "}", ";", LINE_END]


def separated(lists):
    """Return one list of the pieces in several lists, with a comma between each two lists."""
    pieces = []
    for index, others in enumerate(lists):
        if index > 0:
            pieces.append(",")
        pieces.extend(others)
    return pieces


def statement_pieces(statement, names):
    """Return the list of the pieces of a statement."""
    return [statement[-1], *tokens_of_statement(statement, names), LINE_END]


def tokens_of_statement(statement, names):
    """Return the list of the pieces of a statement, without where it comes from and the end of its line."""
    kind = statement[0]
    if kind == "let":
        return ["let", *assignment_pieces(statement, names)]
    if kind == "set":
        return assignment_pieces(statement, names)
    if kind == "do":
        return [*enclosed_pieces(statement[1], names), ";"]
    if kind == "fun":
        return ["fun", names[statement[1]], *function_pieces(statement[2], statement[3], names)]
    if kind == "block":
        return block_pieces(statement[1], names)
    if kind == "try":
        caught = [names[statement[2]], *block_pieces(statement[3], names)]
        return ["try", *block_pieces(statement[1], names), "catch", *caught]
    if kind == "if":
        return if_pieces(statement, names)
    if kind == "repeat":
        return ["repeat", *expression_pieces(statement[1], names), *block_pieces(statement[2], names)]
    return [kind, *expression_pieces(statement[1], names), ";"]


def assignment_pieces(statement, names):
    """Return the list of the pieces that give a variable its value."""
    return [names[statement[1]], "=", *expression_pieces(statement[2], names), ";"]


def if_pieces(statement, names):
    """Return the list of the pieces of a choice, with else only if something stands behind it."""
    _, condition, first, second, _ = statement
    pieces = ["if", *expression_pieces(condition, names), *block_pieces(first, names)]
    if len(second) == 0:
        return pieces
    return [*pieces, "else", *block_pieces(second, names)]


def block_pieces(block, names):
    """Return the list of the pieces of a block."""
    pieces = ["{", LINE_END]
    for statement in block:
        pieces.extend(statement_pieces(statement, names))
    return [*pieces, "}"]


def function_pieces(parameters, block, names):
    """Return the list of the pieces of the parameters and the block of a function."""
    listed = separated([[names[number]] for number in parameters])
    return ["(", *listed, ")", *block_pieces(block, names)]


def enclosed_pieces(e, names):
    """Return the list of the pieces of an expression in parentheses."""
    return ["(", *expression_pieces(e, names), ")"]


def expression_pieces(e, names):
    """Return the list of the pieces of an expression."""
    kind = e[0]
    if kind == "int":
        return [str(e[1])]
    if kind == "bool":
        return ["true" if e[1] else "false"]
    if kind == "none":
        return ["none"]
    if kind == "var":
        return [names[e[1]]]
    if kind == "ask":
        return [e[2], "ask", *enclosed_pieces(e[1], names)]
    if kind == "lambda":
        return ["fun", *function_pieces(e[1], e[2], names)]
    if kind == "call":
        listed = separated([expression_pieces(argument, names) for argument in e[2]])
        return [*enclosed_pieces(e[1], names), "(", *listed, ")"]
    if kind == "not":
        return ["(", "not", *expression_pieces(e[1], names), ")"]
    return ["(", *expression_pieces(e[1], names), SIGNS[kind], *expression_pieces(e[2], names), ")"]
