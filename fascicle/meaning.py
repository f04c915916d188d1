"""The plain meaning of modules: running them, one after the other."""

from fascicle.check import checked
from fascicle.errors import Thrown, Weary
from fascicle.graph import statements_of
from fascicle.machine import INTEGERS, REPEATS, Function, Machine, declare_all, declare_value, shown

MOST_CALLS = 8

KIND = ("error", "kind")
DEEP = ("error", "deep")


def run(modules, entry, *, answers=()):
    """Check and run modules; return the list of the events, the end, and the dict of the exports."""
    graph = checked(modules, entry)
    machine = Machine(graph, answers)
    end = run_modules(machine, graph)
    return machine.events, end, shown_exports(machine, graph)


def run_modules(machine, graph):
    """Run the statements of all modules; return how the run ends."""
    try:
        for module in graph.order():
            for statement in statements_of(graph.module_items(module)):
                run_statement(machine, statement, machine.tops.top(module))
    except Thrown as e:
        return ("thrown", shown(e.value))
    except Weary:
        return ("weary",)
    return ("done",)


def shown_exports(machine, graph):
    """Return the dict from the names that the entry exports to what has become of their variables."""
    found = {}
    for name in graph.exports(graph.entry):
        variable = machine.tops.exported(graph.entry, name)
        if variable.begun:
            found[name] = ("value", shown(variable.value))
        else:
            found[name] = ("early",)
    return found


def truth(value):
    """Return a value that must be a truth value."""
    if not isinstance(value, bool):
        raise Thrown(KIND)
    return value


def integer(value):
    """Return a value that must be an integer."""
    # Python takes truth values for integers.
    if isinstance(value, bool) or not isinstance(value, int):
        raise Thrown(KIND)
    return value


# What runs statements returns None, or a tuple of the one value that a return gives.


def run_statement(machine, statement, scope):
    """Run a statement in a scope."""
    action = STATEMENTS[statement[0]]
    return action(machine, statement, scope)


def run_block(machine, block, scope):
    """Run a block that lies in a scope."""
    inner = scope.inner()
    declare_all(block, inner)
    for statement in block:
        result = run_statement(machine, statement, inner)
        if result is not None:
            return result
    return None


def run_let(machine, statement, scope):
    """Give a variable of this scope its value."""
    value = evaluate(machine, statement[2], scope)
    scope.meaning(statement[1]).begin(value)


def run_fun(machine, statement, scope):
    """Do nothing: a function has its value since its scope was entered."""
    return None


def run_set(machine, statement, scope):
    """Give a variable another value."""
    value = evaluate(machine, statement[2], scope)
    scope.meaning(statement[1]).change(value)


def run_do(machine, statement, scope):
    """Evaluate an expression and forget its value."""
    evaluate(machine, statement[1], scope)


def run_tell(machine, statement, scope):
    """Tell a value."""
    value = evaluate(machine, statement[1], scope)
    machine.tell("tell", value, scope.module, statement[2])


def run_throw(machine, statement, scope):
    """Throw a value."""
    value = evaluate(machine, statement[1], scope)
    raise Thrown(value)


def run_return(machine, statement, scope):
    """Return from the function."""
    return (evaluate(machine, statement[1], scope),)


def run_if(machine, statement, scope):
    """Run one of two blocks."""
    if truth(evaluate(machine, statement[1], scope)):
        return run_block(machine, statement[2], scope)
    return run_block(machine, statement[3], scope)


def run_repeat(machine, statement, scope):
    """Run a block some times."""
    times = integer(evaluate(machine, statement[1], scope)) % REPEATS
    for _ in range(times):
        machine.take()
        result = run_block(machine, statement[2], scope)
        if result is not None:
            return result
    return None


def run_try(machine, statement, scope):
    """Run a block, and another one if a value is thrown in it."""
    try:
        return run_block(machine, statement[1], scope)
    except Thrown as e:
        thrown = e.value
    inner = scope.inner()
    declare_value(statement[2], thrown, inner)
    return run_block(machine, statement[3], inner)


def run_inner_block(machine, statement, scope):
    """Run a block that is a statement."""
    return run_block(machine, statement[1], scope)


def evaluate(machine, e, scope):
    """Return the value of an expression in a scope."""
    action = EXPRESSIONS[e[0]]
    return action(machine, e, scope)


def evaluate_constant(machine, e, scope):
    """Return an integer or a truth value."""
    return e[1]


def evaluate_none(machine, e, scope):
    """Return none."""
    return None


def evaluate_variable(machine, e, scope):
    """Return the value of a variable."""
    return scope.meaning(e[1]).read()


def evaluate_member(machine, e, scope):
    """Return the value of the variable that a member stands for."""
    return machine.tops.member(scope.module, e[1], e[2]).read()


def evaluate_ask(machine, e, scope):
    """Ask, and return the answer."""
    value = evaluate(machine, e[1], scope)
    machine.tell("ask", value, scope.module, e[2])
    return machine.answer()


def evaluate_lambda(machine, e, scope):
    """Return a new function."""
    return Function(e[1], e[2], scope)


def evaluate_call(machine, e, scope):
    """Return the result of a call."""
    function = evaluate(machine, e[1], scope)
    arguments = [evaluate(machine, argument, scope) for argument in e[2]]
    if not isinstance(function, Function):
        raise Thrown(KIND)
    if machine.calls == MOST_CALLS:
        raise Thrown(DEEP)
    machine.take()
    inner = function.scope.inner()
    for index, name in enumerate(function.parameters):
        declare_value(name, arguments[index] if index < len(arguments) else None, inner)
    machine.calls += 1
    try:
        result = run_block(machine, function.block, inner)
    finally:
        machine.calls -= 1
    if result is None:
        return None
    return result[0]


def evaluate_both(machine, e, scope):
    """Return the values of the two operands of an operation, from left to right."""
    left = evaluate(machine, e[1], scope)
    return left, evaluate(machine, e[2], scope)


def evaluate_add(machine, e, scope):
    """Return a sum."""
    left, right = evaluate_both(machine, e, scope)
    return (integer(left) + integer(right)) % INTEGERS


def evaluate_sub(machine, e, scope):
    """Return a difference."""
    left, right = evaluate_both(machine, e, scope)
    return (integer(left) - integer(right)) % INTEGERS


def evaluate_mul(machine, e, scope):
    """Return a product."""
    left, right = evaluate_both(machine, e, scope)
    return integer(left) * integer(right) % INTEGERS


def evaluate_lt(machine, e, scope):
    """Return whether an integer is less than another one."""
    left, right = evaluate_both(machine, e, scope)
    return integer(left) < integer(right)


def evaluate_eq(machine, e, scope):
    """Return whether two values are the same."""
    left, right = evaluate_both(machine, e, scope)
    # Python takes True for 1 and False for 0.
    return isinstance(left, bool) == isinstance(right, bool) and left == right


def evaluate_and(machine, e, scope):
    """Return whether both operands are true."""
    return truth(evaluate(machine, e[1], scope)) and truth(evaluate(machine, e[2], scope))


def evaluate_or(machine, e, scope):
    """Return whether one of the operands is true."""
    return truth(evaluate(machine, e[1], scope)) or truth(evaluate(machine, e[2], scope))


def evaluate_not(machine, e, scope):
    """Return whether the operand is false."""
    return not truth(evaluate(machine, e[1], scope))


STATEMENTS = {
    "let": run_let, "fun": run_fun, "set": run_set, "do": run_do, "tell": run_tell, "throw": run_throw,
    "return": run_return, "if": run_if, "repeat": run_repeat, "try": run_try, "block": run_inner_block,
}

EXPRESSIONS = {
    "int": evaluate_constant, "bool": evaluate_constant, "none": evaluate_none, "var": evaluate_variable,
    "member": evaluate_member, "ask": evaluate_ask, "lambda": evaluate_lambda, "call": evaluate_call,
    "add": evaluate_add, "sub": evaluate_sub, "mul": evaluate_mul, "lt": evaluate_lt, "eq": evaluate_eq,
    "and": evaluate_and, "or": evaluate_or, "not": evaluate_not,
}
