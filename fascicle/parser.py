"""Reading the text of a module: from its tokens to the trees of its items."""

from fascicle.cursor import Cursor
from fascicle.trees import deeper_than
from fascicle.errors import Oversized

DEEPEST = 12
GREATEST_LEVEL = 40

CONSTANTS = {"true": ("bool", True), "false": ("bool", False), "none": ("none",)}
COMPARISONS = {"<": "lt", "==": "eq"}
SUMS = {"+": "add", "-": "sub"}


def parse(text, module):
    """Return the list of the items of a module."""
    cursor = Cursor(text, module)
    items = []
    while cursor.key() != "end":
        read = read_item(cursor)
        for item in read:
            if deeper_than(item, DEEPEST):
                raise Oversized("depth")
        items.extend(read)
    return items


def deeper(level):
    """Return the level one greater than a level."""
    if level >= GREATEST_LEVEL:
        raise Oversized("nesting")
    return level + 1


def read_item(cursor):
    """Read an item; return the list of it, or of the two items of an exported declaration."""
    if cursor.key() == "import":
        return [read_import(cursor)]
    if cursor.key() == "export":
        return read_export(cursor)
    return [read_statement(cursor, 1)]


def read_import(cursor):
    """Read an import of any form."""
    at = cursor.place()
    cursor.expect("import")
    if cursor.key() == "string":
        item = ("need", cursor.expect("string"), at)
    elif cursor.takes("*"):
        cursor.expect("as")
        name = cursor.expect("name")
        cursor.expect("from")
        item = ("space", cursor.expect("string"), name, at)
    else:
        pairs = read_pairs(cursor)
        cursor.expect("from")
        item = ("import", cursor.expect("string"), pairs, at)
    cursor.expect(";")
    return item


def read_export(cursor):
    """Read an export of any form; return the list of its items."""
    at = cursor.place()
    cursor.expect("export")
    if cursor.key() == "let":
        return exported(read_let(cursor, 1), at)
    if cursor.key() == "fun":
        return exported(read_function(cursor, 1), at)
    if cursor.takes("*"):
        cursor.expect("from")
        item = ("star", cursor.expect("string"), at)
    else:
        item = read_exported_pairs(cursor, at)
    cursor.expect(";")
    return [item]


def exported(statement, at):
    """Return the items of a declaration that is exported at an index."""
    name = statement[1]
    return [statement, ("export", ((name, name),), at)]


def read_exported_pairs(cursor, at):
    """Read the pairs of an export that begins at an index, and the module that they are from."""
    pairs = read_pairs(cursor)
    if cursor.takes("from"):
        return ("from", cursor.expect("string"), pairs, at)
    return ("export", pairs, at)


def read_pairs(cursor):
    """Read the pairs of names in braces."""
    cursor.expect("{")
    if cursor.takes("}"):
        return ()
    pairs = [read_pair(cursor)]
    while cursor.takes(","):
        pairs.append(read_pair(cursor))
    cursor.expect("}")
    return tuple(pairs)


def read_pair(cursor):
    """Read a name, with or without another one behind as."""
    name = cursor.expect("name")
    if cursor.takes("as"):
        return (name, cursor.expect("name"))
    return (name, name)


def read_statement(cursor, level):
    """Read a statement of a level."""
    key = cursor.key()
    if key == "let":
        return read_let(cursor, level)
    if key == "fun" and cursor.key_behind() == "name":
        return read_function(cursor, level)
    if key == "name" and cursor.key_behind() == "=":
        return read_assignment(cursor, level)
    if key in ("tell", "throw") or (key == "return" and cursor.functions > 0):
        return read_told(cursor, key, level)
    if key == "if":
        return read_if(cursor, level)
    if key == "repeat":
        return read_repeat(cursor, level)
    if key == "try":
        return read_try(cursor, level)
    at = cursor.place()
    if key == "{":
        return ("block", read_block(cursor, level), at)
    return ("do", read_ended_expression(cursor, level), at)


def read_let(cursor, level):
    """Read the declaration of a variable."""
    at = cursor.place()
    cursor.expect("let")
    name = cursor.expect("name")
    cursor.expect("=")
    return ("let", name, read_ended_expression(cursor, level), at)


def read_function(cursor, level):
    """Read the declaration of a function."""
    at = cursor.place()
    cursor.expect("fun")
    name = cursor.expect("name")
    parameters = read_parameters(cursor)
    return ("fun", name, parameters, read_function_block(cursor, level), at)


def read_assignment(cursor, level):
    """Read an assignment."""
    at = cursor.place()
    name = cursor.expect("name")
    cursor.expect("=")
    return ("set", name, read_ended_expression(cursor, level), at)


def read_told(cursor, key, level):
    """Read a statement of a reserved word and an expression."""
    at = cursor.place()
    cursor.expect(key)
    return (key, read_ended_expression(cursor, level), at)


def read_if(cursor, level):
    """Read a choice, with or without else."""
    at = cursor.place()
    cursor.expect("if")
    condition = read_expression(cursor, level)
    first = read_block(cursor, level)
    second = ()
    if cursor.takes("else"):
        second = read_block(cursor, level)
    return ("if", condition, first, second, at)


def read_repeat(cursor, level):
    """Read a repetition."""
    at = cursor.place()
    cursor.expect("repeat")
    times = read_expression(cursor, level)
    return ("repeat", times, read_block(cursor, level), at)


def read_try(cursor, level):
    """Read a block and what catches the values that are thrown in it."""
    at = cursor.place()
    cursor.expect("try")
    first = read_block(cursor, level)
    cursor.expect("catch")
    name = cursor.expect("name")
    return ("try", first, name, read_block(cursor, level), at)


def read_block(cursor, level):
    """Read the block of a statement or a function of a level."""
    inner = deeper(level)
    cursor.expect("{")
    statements = []
    while not cursor.takes("}"):
        statements.append(read_statement(cursor, inner))
    return tuple(statements)


def read_function_block(cursor, level):
    """Read the block of a function, in which return may stand."""
    cursor.functions += 1
    block = read_block(cursor, level)
    cursor.functions -= 1
    return block


def read_parameters(cursor):
    """Read the names of the parameters of a function."""
    cursor.expect("(")
    if cursor.takes(")"):
        return ()
    names = [cursor.expect("name")]
    while cursor.takes(","):
        names.append(cursor.expect("name"))
    cursor.expect(")")
    return tuple(names)


def read_ended_expression(cursor, level):
    """Read an expression and the semicolon behind it."""
    tree = read_expression(cursor, level)
    cursor.expect(";")
    return tree


def read_expression(cursor, level):
    """Read an expression of a level: a chain of or."""
    tree = read_both(cursor, level)
    while cursor.takes("or"):
        level = deeper(level)
        tree = ("or", tree, read_both(cursor, level))
    return tree


def read_both(cursor, level):
    """Read a chain of and."""
    tree = read_plain(cursor, level)
    while cursor.takes("and"):
        level = deeper(level)
        tree = ("and", tree, read_plain(cursor, level))
    return tree


def read_plain(cursor, level):
    """Read a negation, a comparison or a sum."""
    if cursor.takes("not"):
        return ("not", read_plain(cursor, deeper(level)))
    tree = read_sum(cursor, level)
    key = cursor.key()
    if key in COMPARISONS:
        cursor.expect(key)
        return (COMPARISONS[key], tree, read_sum(cursor, deeper(level)))
    return tree


def read_sum(cursor, level):
    """Read a chain of + and -."""
    tree = read_product(cursor, level)
    while cursor.key() in SUMS:
        kind = SUMS[cursor.key()]
        cursor.expect(cursor.key())
        level = deeper(level)
        tree = (kind, tree, read_product(cursor, level))
    return tree


def read_product(cursor, level):
    """Read a chain of *."""
    tree = read_called(cursor, level)
    while cursor.takes("*"):
        level = deeper(level)
        tree = ("mul", tree, read_called(cursor, level))
    return tree


def read_called(cursor, level):
    """Read a chain of calls, or what could be called."""
    tree = read_primary(cursor, level)
    while cursor.takes("("):
        level = deeper(level)
        tree = ("call", tree, read_arguments(cursor, level))
    return tree


def read_arguments(cursor, level):
    """Read the arguments of a call of a level, behind its opening parenthesis."""
    if cursor.takes(")"):
        return ()
    # The level of the call has grown at its parenthesis already; an argument is one deeper still.
    trees = [read_expression(cursor, deeper(level))]
    while cursor.takes(","):
        trees.append(read_expression(cursor, deeper(level)))
    cursor.expect(")")
    return tuple(trees)


def read_primary(cursor, level):
    """Read an expression without operators and calls around it."""
    at = cursor.place()
    key = cursor.key()
    if key == "name":
        return read_variable(cursor)
    if key == "number":
        return ("int", cursor.expect("number"))
    if key in CONSTANTS:
        cursor.expect(key)
        return CONSTANTS[key]
    if cursor.takes("ask"):
        return ("ask", read_enclosed(cursor, level), at)
    if cursor.takes("fun"):
        parameters = read_parameters(cursor)
        return ("lambda", parameters, read_function_block(cursor, level))
    return read_enclosed(cursor, level)


def read_variable(cursor):
    """Read a name, or the member of a space."""
    name = cursor.expect("name")
    if cursor.takes("."):
        return ("member", name, cursor.expect("name"))
    return ("var", name)


def read_enclosed(cursor, level):
    """Read an expression in parentheses that stand in something of a level."""
    cursor.expect("(")
    tree = read_expression(cursor, deeper(level))
    cursor.expect(")")
    return tree
