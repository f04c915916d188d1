"""The variables that occur in linked trees."""

import unittest

from fascicle.link import link
from fascicle.uses import block_uses, expression_uses, statement_uses

ONE = ("int", 1)


def var(number):
    return ("var", number)


def do(number):
    return ("do", var(number), 0)


class ExpressionsTest(unittest.TestCase):
    def test_without_variables(self):
        for e in (ONE, ("bool", True), ("none",), ("ask", ONE, 4), ("not", ONE), ("call", ONE, ()), ("call", ONE, (ONE, ONE)),
                  ("add", ONE, ONE), ("lambda", (), ()), ("lambda", (), (("tell", ONE, 0), ("block", (), 0)))):
            self.assertEqual(expression_uses(e), [], e)

    def test_integers_and_indexes_are_no_variables(self):
        self.assertEqual(expression_uses(("add", ("int", 7), ("ask", var(3), 5))), [3])
        self.assertEqual(statement_uses(("tell", ("ask", ("int", 8), 9), 10)), [])

    def test_each_kind(self):
        for e, expected in (
            (var(3), [3]), (("ask", var(3), 9), [3]), (("not", var(3)), [3]),
            (("call", var(3), ()), [3]), (("call", ONE, (var(3),)), [3]), (("call", var(5), (var(3), var(4))), [5, 3, 4]),
            (("lambda", (3,), ()), [3]), (("lambda", (5, 3), ()), [5, 3]), (("lambda", (), (do(3),)), [3]),
            (("lambda", (5, 3), (do(4), do(1))), [5, 3, 4, 1]),
        ):
            self.assertEqual(expression_uses(e), expected, e)
        for kind in ("add", "sub", "mul", "lt", "eq", "and", "or"):
            self.assertEqual(expression_uses((kind, var(4), var(2))), [4, 2])
            self.assertEqual(expression_uses((kind, ONE, var(2))), [2])
            self.assertEqual(expression_uses((kind, var(4), ONE)), [4])

    def test_from_left_to_right(self):
        e = ("or", ("not", ("call", ("call", var(9), (var(8),)), (("ask", var(7), 0), var(6)))), ("lt", ("add", var(5), var(4)), var(3)))
        self.assertEqual(expression_uses(e), [9, 8, 7, 6, 5, 4, 3])

    def test_each_once_where_it_occurs_first(self):
        self.assertEqual(expression_uses(("add", ("mul", var(4), var(2)), ("sub", var(2), ("add", var(1), var(4))))), [4, 2, 1])
        self.assertEqual(expression_uses(("call", var(0), (var(0), var(0)))), [0])
        self.assertEqual(expression_uses(("lambda", (2, 1), (do(1), do(0), do(2)))), [2, 1, 0])
        self.assertEqual(expression_uses(("call", var(1), (("lambda", (3, 1), (do(0),)), var(2)))), [1, 3, 0, 2])


class StatementsTest(unittest.TestCase):
    def test_each_kind(self):
        for statement, expected in (
            (("let", 3, ONE, 0), [3]), (("let", 3, var(4), 0), [3, 4]), (("let", 4, var(3), 0), [4, 3]), (("let", 3, var(3), 0), [3]),
            (("set", 3, ONE, 0), [3]), (("set", 3, var(4), 0), [3, 4]), (("set", 4, var(3), 0), [4, 3]),
            (("fun", 3, (), (), 0), [3]), (("fun", 3, (5, 4), (), 0), [3, 5, 4]), (("fun", 3, (5, 4), (do(1), do(6)), 0), [3, 5, 4, 1, 6]),
            (("fun", 3, (), (do(1), do(3)), 0), [3, 1]), (("fun", 1, (0,), (do(1), do(0), do(2)), 0), [1, 0, 2]),
            (("do", var(3), 0), [3]), (("tell", var(3), 0), [3]), (("throw", var(3), 0), [3]), (("return", var(3), 0), [3]),
            (("do", ONE, 3), []), (("tell", ONE, 3), []), (("throw", ONE, 3), []), (("return", ONE, 3), []),
            (("if", var(3), (), (), 0), [3]), (("if", ONE, (do(4),), (), 0), [4]), (("if", ONE, (), (do(5),), 0), [5]),
            (("if", var(5), (do(4), do(2)), (do(3), do(1)), 0), [5, 4, 2, 3, 1]),
            (("repeat", var(3), (), 0), [3]), (("repeat", ONE, (do(3),), 0), [3]), (("repeat", var(3), (do(2), do(1)), 0), [3, 2, 1]),
            (("try", (), 3, (), 0), [3]), (("try", (do(4), do(5)), 3, (do(2), do(1)), 0), [4, 5, 3, 2, 1]),
            (("try", (do(2),), 1, (do(1), do(0)), 0), [2, 1, 0]),
            (("block", (), 3), []), (("block", (do(3),), 0), [3]), (("block", (do(3), do(1), do(2)), 0), [3, 1, 2]),
        ):
            self.assertEqual(statement_uses(statement), expected, statement)

    def test_blocks(self):
        self.assertEqual(block_uses(()), [])
        self.assertEqual(block_uses((do(3),)), [3])
        self.assertEqual(block_uses((do(3), ("tell", ONE, 8), do(1), do(3), ("let", 2, var(1), 0), do(0))), [3, 1, 2, 0])
        self.assertEqual(block_uses((("try", (do(4),), 1, (do(3),), 0), ("fun", 2, (5,), (do(0), do(4)), 0))), [4, 1, 3, 2, 5, 0])

    def test_blocks_in_blocks(self):
        inner = ("try", (("repeat", var(9), (do(8),), 0),), 7, (("if", var(6), (do(5),), (("block", (do(4),), 0),), 0),), 0)
        self.assertEqual(statement_uses(("fun", 3, (2,), (inner, ("return", ("lambda", (1,), (do(0), do(9))), 0)), 0)),
                         [3, 2, 9, 8, 7, 6, 5, 4, 1, 0])

    def test_a_linked_module(self):
        found = link({"m": "let x = y; let y = fun(a) { x = a; { let b = f; } }; fun f(c) { try { f(y); } catch d { tell c; } }"}, "m")
        statements = [statement for _, statement in found.statements()]
        # x 0, y 1, f 2, a 3, b 4, c 5, d 6
        self.assertEqual([statement_uses(statement) for statement in statements], [[0, 1], [1, 3, 0, 4, 2], [2, 5, 1, 6]])
        self.assertEqual(block_uses(tuple(statements)), [0, 1, 3, 4, 2, 5, 6])
        self.assertEqual([expression_uses(statement[2]) for statement in statements[:2]], [[1], [3, 0, 4, 2]])

    def test_a_new_list_each_time(self):
        block = (do(1), do(2))
        block_uses(block).append(5)
        self.assertEqual(block_uses(block), [1, 2])


if __name__ == "__main__":
    unittest.main()
