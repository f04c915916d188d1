"""Point 7.1: folding."""

import unittest

from fascicle.fold import fold, fold_expression, fold_statement
from fascicle.link import Linked, link

NONE, TRUE, FALSE = ("none",), ("bool", True), ("bool", False)
VAR = ("var", 0)
OPERATIONS = ("add", "sub", "mul", "lt", "eq", "and", "or")
# Some of each kind of expression that folding leaves alone.
STAYING = {
    "var": VAR, "call": ("call", VAR, ()), "ask": ("ask", VAR, 3), "lambda": ("lambda", (), ()), "add": ("add", VAR, VAR),
    "lt": ("lt", VAR, VAR), "eq": ("eq", VAR, VAR), "not": ("not", VAR), "and": ("and", VAR, VAR), "or": ("or", VAR, VAR),
}


def number(n):
    return ("int", n)


def truth(found):
    return TRUE if found else FALSE


def do(e):
    return ("do", e, 5)


def folded(text, before=""):
    """The tree of an expression, in which x is the variable 0, after folding."""
    pairs = fold(link({"m": f"let x = none; {before} tell {text};"}, "m")).statements()
    return pairs[-1][1][1]


class OperationsTest(unittest.TestCase):
    def test_operations_on_integers(self):
        for text, expected in (
            ("1 + 2", 3), ("0 + 0", 0), ("65535 + 1", 0), ("65535 + 65535", 65534), ("40000 + 40000", 14464), ("65534 + 1", 65535),
            ("3 - 2", 1), ("2 - 2", 0), ("2 - 3", 65535), ("0 - 65535", 1), ("0 - 1", 65535), ("65535 - 0", 65535),
            ("3 * 4", 12), ("256 * 256", 0), ("65535 * 65535", 1), ("65535 * 2", 65534), ("257 * 255", 65535), ("0 * 65535", 0),
        ):
            self.assertEqual(folded(text), number(expected), text)
        for text, expected in (("1 < 2", True), ("2 < 1", False), ("1 < 1", False), ("0 < 65535", True), ("65535 < 0", False)):
            self.assertEqual(folded(text), truth(expected), text)

    def test_eq_of_constants(self):
        constants = [number(0), number(1), number(65535), TRUE, FALSE, NONE]
        for at, left in enumerate(constants):
            for other, right in enumerate(constants):
                self.assertEqual(fold_expression(("eq", left, right)), truth(at == other), (left, right))

    def test_kinds_of_results(self):
        # Python takes True for 1, and would take one tree for the other.
        self.assertIs(type(fold_expression(("add", number(1), number(0)))[1]), int)
        self.assertIs(fold_expression(("eq", number(1), TRUE))[1], False)
        self.assertIs(fold_expression(("eq", number(1), number(1)))[1], True)
        self.assertIs(fold_expression(("lt", number(0), number(1)))[1], True)
        self.assertIs(fold_expression(("not", TRUE))[1], False)
        self.assertIs(fold_expression(("not", FALSE))[1], True)

    def test_not(self):
        self.assertEqual(folded("not true"), FALSE)
        self.assertEqual(folded("not false"), TRUE)
        self.assertEqual(folded("not not true"), TRUE)
        for operand in (number(0), number(1), NONE, *STAYING.values()):
            self.assertEqual(fold_expression(("not", operand)), ("not", operand))

    def test_a_deciding_constant_on_the_left(self):
        for right in (number(1), TRUE, FALSE, NONE, *STAYING.values(), ("call", number(1), (("ask", VAR, 2),))):
            self.assertEqual(fold_expression(("and", FALSE, right)), FALSE)
            self.assertEqual(fold_expression(("or", TRUE, right)), TRUE)

    def test_the_other_constant_on_the_left(self):
        for kind, left in (("and", TRUE), ("or", FALSE)):
            for right in (TRUE, FALSE, *[STAYING[key] for key in ("lt", "eq", "not", "and", "or")]):
                self.assertEqual(fold_expression((kind, left, right)), right)
            for right in (number(0), number(1), NONE, *[STAYING[key] for key in ("var", "call", "ask", "lambda", "add")],
                          ("sub", VAR, VAR), ("mul", VAR, VAR)):
                self.assertEqual(fold_expression((kind, left, right)), (kind, left, right))

    def test_the_right_operand_is_folded_first(self):
        self.assertEqual(folded("true and 1 < 2"), TRUE)
        self.assertEqual(folded("true and (1 + x) == (1 + 1)"), ("eq", ("add", number(1), VAR), number(2)))
        self.assertEqual(folded("false or not (1 < x)"), ("not", ("lt", number(1), VAR)))
        self.assertEqual(folded("true and (true and x)"), ("and", TRUE, VAR))
        self.assertEqual(folded("true and (false or x)"), ("or", FALSE, VAR))
        self.assertEqual(folded("false or (true and 1)"), ("and", TRUE, number(1)))
        # The right operand has become an integer, a variable stays one.
        self.assertEqual(folded("true and 1 + 2"), ("and", TRUE, number(3)))
        self.assertEqual(folded("true and x"), ("and", TRUE, VAR))


class StayingTest(unittest.TestCase):
    def test_operands_of_the_wrong_kind(self):
        others = [TRUE, FALSE, NONE, *STAYING.values()]
        for kind in ("add", "sub", "mul", "lt"):
            for other in others:
                for e in ((kind, other, number(1)), (kind, number(1), other), (kind, other, other)):
                    self.assertEqual(fold_expression(e), e)

    def test_no_constant_under_eq(self):
        for constant in (number(1), TRUE, FALSE, NONE):
            for other in STAYING.values():
                for e in (("eq", other, constant), ("eq", constant, other), ("eq", other, other)):
                    self.assertEqual(fold_expression(e), e)

    def test_wrong_constants_on_the_left(self):
        for kind in ("and", "or"):
            for left in (number(0), number(1), NONE):
                for right in (TRUE, FALSE, number(1), VAR):
                    self.assertEqual(fold_expression((kind, left, right)), (kind, left, right))

    def test_a_constant_on_the_right_only(self):
        for kind in ("and", "or"):
            for left in STAYING.values():
                for right in (TRUE, FALSE, number(1), NONE):
                    self.assertEqual(fold_expression((kind, left, right)), (kind, left, right))

    def test_laws_of_numbers_are_not_used(self):
        for text in ("x + 0", "0 + x", "x * 0", "0 * x", "x * 1", "x - x", "x == x", "x < 0", "not not x", "(x + 1) + 2", "x and x", "x or true"):
            self.assertEqual(folded(text), fold_expression(folded(text)))
            (_, (_, statement)) = link({"m": f"let x = none; tell {text};"}, "m").statements()
            self.assertEqual(folded(text), statement[1], text)
        self.assertEqual(folded("x + 1 + 2"), ("add", ("add", VAR, number(1)), number(2)))
        self.assertEqual(folded("1 + 2 + x"), ("add", number(3), VAR))

    def test_what_is_no_operation(self):
        for e in (number(0), number(65535), TRUE, FALSE, NONE, *STAYING.values()):
            self.assertEqual(fold_expression(e), e)


class InsideTest(unittest.TestCase):
    def test_from_the_inside_outwards(self):
        self.assertEqual(folded("(1 + 2) * (3 - 4) + 5"), number(2))
        self.assertEqual(folded("not ((1 + 1) < 2) and (none == none)"), TRUE)
        self.assertEqual(folded("(1 < 2) == (3 < 2)"), FALSE)
        self.assertEqual(folded("(1 + 1) == (2 * 1) or x"), TRUE)
        self.assertEqual(folded("not (false and x)"), TRUE)
        self.assertEqual(folded("(true or x) == true"), TRUE)

    def test_wrong_operands_inside(self):
        self.assertEqual(folded("(true + 1) + (1 + 1)"), ("add", ("add", TRUE, number(1)), number(2)))
        self.assertEqual(folded("(1 + 1) and true"), ("and", number(2), TRUE))
        self.assertEqual(folded("1 < (1 == 1)"), ("lt", number(1), TRUE))

    def test_each_kind_of_expression(self):
        two = ("add", number(1), number(1))
        for kind in OPERATIONS:
            self.assertEqual(fold_expression((kind, VAR, two)), (kind, VAR, number(2)))
            self.assertEqual(fold_expression((kind, ("call", two, ()), VAR)), (kind, ("call", number(2), ()), VAR))
        self.assertEqual(fold_expression(("not", two)), ("not", number(2)))
        self.assertEqual(fold_expression(("ask", two, 7)), ("ask", number(2), 7))
        self.assertEqual(fold_expression(("call", two, (two, VAR, two))), ("call", number(2), (number(2), VAR, number(2))))
        self.assertEqual(fold_expression(("lambda", (4, 3), (do(two), do(VAR), do(two)))),
                         ("lambda", (4, 3), (do(number(2)), do(VAR), do(number(2)))))

    def test_each_kind_of_statement(self):
        two, no = ("add", number(1), number(1)), number(2)
        a, b, c, d = do(two), do(VAR), do(no), ("if", two, (), (), 9)
        for before, after in (
            (("let", 3, two, 8), ("let", 3, no, 8)), (("set", 3, two, 8), ("set", 3, no, 8)),
            (("do", two, 8), ("do", no, 8)), (("tell", two, 8), ("tell", no, 8)), (("throw", two, 8), ("throw", no, 8)),
            (("return", two, 8), ("return", no, 8)), (("fun", 3, (4, 5), (a, b, a), 8), ("fun", 3, (4, 5), (c, b, c), 8)),
            (("if", VAR, (a, b), (b, a), 8), ("if", VAR, (c, b), (b, c), 8)), (("if", two, (a,), (), 8), ("if", no, (c,), (), 8)),
            (("repeat", VAR, (a, b), 8), ("repeat", VAR, (c, b), 8)), (("repeat", two, (), 8), ("repeat", no, (), 8)),
            (("try", (a, b), 3, (b, a), 8), ("try", (c, b), 3, (b, c), 8)), (("block", (b, a), 8), ("block", (b, c), 8)),
            (("block", (("block", (d,), 7),), 6), ("block", (("block", (("if", no, (), (), 9),), 7),), 6)),
        ):
            self.assertEqual(fold_statement(before), after, before)
            self.assertEqual(fold_statement(after), after)

    def test_statements_inside_expressions(self):
        inside = ("if", ("lt", number(1), number(2)), (do(VAR),), (), 4)
        expected = ("block", (do(VAR),), 4)
        self.assertEqual(fold_expression(("not", ("lambda", (), (inside,)))), ("not", ("lambda", (), (expected,))))
        self.assertEqual(fold_statement(("return", ("call", ("lambda", (), (inside,)), ()), 3)),
                         ("return", ("call", ("lambda", (), (expected,)), ()), 3))


class ChoiceTest(unittest.TestCase):
    A, B = do(number(1)), do(number(2))

    def test_an_if_with_a_constant(self):
        for condition, taken in ((TRUE, (self.A, self.B)), (FALSE, (self.B,))):
            self.assertEqual(fold_statement(("if", condition, (self.A, self.B), (self.B,), 8)), ("block", taken, 8))
        self.assertEqual(fold_statement(("if", TRUE, (), (self.B,), 8)), ("block", (), 8))
        self.assertEqual(fold_statement(("if", FALSE, (self.A,), (), 8)), ("block", (), 8))

    def test_an_if_that_becomes_one_with_a_constant(self):
        self.assertEqual(fold_statement(("if", ("lt", number(2), number(1)), (self.A,), (do(("not", TRUE)),), 8)), ("block", (do(FALSE),), 8))
        self.assertEqual(fold_statement(("if", ("and", FALSE, VAR), (), (self.B,), 8)), ("block", (self.B,), 8))
        self.assertEqual(fold_statement(("if", ("or", ("eq", NONE, NONE), VAR), (self.A,), (), 8)), ("block", (self.A,), 8))

    def test_an_if_that_stays(self):
        for condition in (number(0), number(1), NONE, *STAYING.values(), ("and", TRUE, VAR), ("and", TRUE, number(1))):
            statement = ("if", condition, (self.A,), (self.B,), 8)
            self.assertEqual(fold_statement(statement), statement)

    def test_a_repeat_that_never_runs(self):
        for times in (0, 8, 16, 24, 32768, 65528):
            self.assertEqual(fold_statement(("repeat", number(times), (self.A, ("let", 3, VAR, 2)), 8)), ("block", (), 8), times)
        self.assertEqual(fold_statement(("repeat", ("mul", number(4), number(2)), (self.A,), 8)), ("block", (), 8))
        self.assertEqual(fold_statement(("repeat", ("add", number(65535), number(1)), (), 8)), ("block", (), 8))

    def test_a_repeat_that_stays(self):
        others = [number(times) for times in (1, 2, 3, 4, 5, 6, 7, 9, 15, 17, 65527, 65529, 65535)]
        for times in (*others, TRUE, FALSE, NONE, *STAYING.values()):
            for block in ((self.A,), ()):
                statement = ("repeat", times, block, 8)
                self.assertEqual(fold_statement(statement), statement)

    def test_choices_inside_choices(self):
        inner = ("if", FALSE, (self.A,), (("repeat", number(8), (self.A,), 3), self.B), 4)
        self.assertEqual(fold_statement(("if", ("not", FALSE), (inner, inner), (), 2)),
                         ("block", (("block", (("block", (), 3), self.B), 4),) * 2, 2))
        self.assertEqual(fold_statement(("try", (inner,), 7, (inner,), 2))[1][0][0], "block")
        self.assertEqual(fold_statement(("fun", 1, (), (inner,), 2))[3][0][0], "block")


class LinkedTest(unittest.TestCase):
    MODULES = {
        "a": 'import {f} from "b"; if 1 < 2 { let y = 1; tell y; } export let x = f(1 + 1); repeat 8 { tell 1; }',
        "b": "export fun f(p) { if true { return p + 2 * 3; } else { let q = 1; return q; } } {}",
    }

    def test_all_statements_are_folded(self):
        before = link(self.MODULES, "a")
        after = fold(before)
        self.assertEqual(after.statements(), [
            ("b", ("fun", 0, (2,), (("block", (("return", ("add", ("var", 2), number(6)), 28),), 18),), 7)),
            ("b", ("block", (), 80)),
            ("a", ("block", (("let", 4, number(1), 32), ("tell", ("var", 4), 43)), 21)),
            ("a", ("let", 1, ("call", ("var", 0), (number(2),)), 60)),
            ("a", ("block", (), 78)),
        ])
        self.assertEqual([(module, fold_statement(statement)) for module, statement in before.statements()], after.statements())

    def test_what_stays_and_what_is_not_modified(self):
        before = link(self.MODULES, "a")
        statements, exports, variables = before.statements(), before.exports(), before.variables()
        after = fold(before)
        self.assertIsInstance(after, Linked)
        self.assertEqual((after.exports(), after.variables()), (exports, variables))
        self.assertEqual((before.statements(), before.exports(), before.variables()), (statements, exports, variables))
        self.assertEqual(fold(after).statements(), after.statements())

    def test_nothing(self):
        found = fold(Linked([], [("x", 0)], [("let", "x", "m")]))
        self.assertEqual((found.statements(), found.exports(), found.variables()), ([], [("x", 0)], [("let", "x", "m")]))


if __name__ == "__main__":
    unittest.main()
