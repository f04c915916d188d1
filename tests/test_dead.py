"""Point 7.2: dead statements."""

import unittest

from fascicle.dead import always_ends, dead
from fascicle.link import Linked, link

ONE, VAR = ("int", 1), ("var", 0)
A, B, C = ("do", ONE, 1), ("tell", VAR, 2), ("set", 0, ONE, 3)
RETURN, THROW = ("return", ONE, 4), ("throw", VAR, 5)
LET, FUN = ("let", 1, ONE, 6), ("fun", 2, (3,), (A,), 7)
# Blocks that do not always end, and those that do.
GOING = ((), (A,), (LET, FUN, A, B, C))
ENDING = ((RETURN,), (THROW,), (A, RETURN), (RETURN, A), (LET, THROW, B))


def cleaned(block):
    """What becomes of the block of a statement at the top."""
    found = dead(Linked([("m", ("block", block, 9))], [], []))
    ((module, statement),) = found.statements()
    assert module == "m" and statement[0] == "block" and statement[2] == 9
    return statement[1]


def statements(text):
    return [statement for _, statement in dead(link({"m": text}, "m")).statements()]


class AlwaysEndsTest(unittest.TestCase):
    def test_return_and_throw(self):
        for statement in (RETURN, THROW, ("return", ("lambda", (), ()), 1), ("throw", ("none",), 1)):
            self.assertIs(always_ends(statement), True)

    def test_others(self):
        for statement in (A, B, C, LET, FUN, ("do", ("lambda", (), (RETURN,)), 1), ("let", 1, ("lambda", (), (THROW,)), 1),
                          ("fun", 1, (), (RETURN,), 1), ("fun", 1, (), (THROW,), 1)):
            self.assertIs(always_ends(statement), False, statement)

    def test_blocks(self):
        for block in GOING:
            self.assertIs(always_ends(("block", block, 1)), False, block)
        for block in ENDING:
            self.assertIs(always_ends(("block", block, 1)), True, block)
            self.assertIs(always_ends(("block", (A, ("block", block, 1), B), 1)), True, block)

    def test_choices(self):
        for first in GOING + ENDING:
            for second in GOING + ENDING:
                expected = first in ENDING and second in ENDING
                self.assertIs(always_ends(("if", VAR, first, second, 1)), expected, (first, second))
        inner = ("if", VAR, (RETURN,), (A, THROW), 1)
        self.assertIs(always_ends(("if", VAR, (B, inner), (("block", (inner,), 1), A), 1)), True)
        self.assertIs(always_ends(("if", VAR, (B, inner), (("repeat", ONE, (inner,), 1), A), 1)), False)
        # A constant is not looked at.
        self.assertIs(always_ends(("if", ("bool", True), (RETURN,), (), 1)), False)

    def test_repeat_and_try(self):
        for block in GOING + ENDING:
            self.assertIs(always_ends(("repeat", ("int", 7), block, 1)), False)
            for other in GOING + ENDING:
                self.assertIs(always_ends(("try", block, 3, other, 1)), False)


class BlocksTest(unittest.TestCase):
    def test_what_stands_behind_the_end(self):
        for end in (RETURN, THROW, ("block", (RETURN,), 8), ("if", VAR, (RETURN,), (THROW,), 8)):
            self.assertEqual(cleaned((end,)), (end,))
            self.assertEqual(cleaned((A, B, end)), (A, B, end))
            self.assertEqual(cleaned((end, A, B, C)), (end,))
            self.assertEqual(cleaned((A, end, B, C)), (A, end))
            self.assertEqual(cleaned((end, end, A)), (end,))
            self.assertEqual(cleaned((end, RETURN, THROW)), (end,))
            self.assertEqual(cleaned((end, ("repeat", ONE, (A,), 1), ("try", (), 3, (), 1), ("block", (), 1), ("if", VAR, (), (), 1))), (end,))

    def test_declarations_stay(self):
        self.assertEqual(cleaned((LET, RETURN, A, LET, B, FUN, C, LET)), (LET, RETURN, LET, FUN, LET))
        self.assertEqual(cleaned((RETURN, FUN, THROW, LET)), (RETURN, FUN, LET))
        # Declarations inside a statement that goes do not stay.
        self.assertEqual(cleaned((RETURN, ("block", (LET, FUN), 1), ("if", VAR, (LET,), (), 1))), (RETURN,))

    def test_what_does_not_end(self):
        for block in ((), (A,), (A, LET, FUN, B, C), (("repeat", ONE, (RETURN,), 1), A), (("try", (RETURN,), 3, (RETURN,), 1), A),
                      (("if", VAR, (RETURN,), (), 1), A), (("if", VAR, (), (THROW,), 1), A), (("fun", 1, (), (RETURN,), 1), A),
                      (("do", ("call", ("lambda", (), (THROW,)), ()), 1), A), (("block", (), 1), A)):
            self.assertEqual(cleaned(block), block)

    def test_each_kind_of_block(self):
        before, after = (A, THROW, B, FUN), (A, THROW, FUN)
        for make in (
            lambda block: ("fun", 4, (5, 6), block, 8), lambda block: ("if", VAR, block, (), 8), lambda block: ("if", VAR, (), block, 8),
            lambda block: ("repeat", VAR, block, 8), lambda block: ("try", block, 4, (), 8), lambda block: ("try", (), 4, block, 8),
            lambda block: ("block", block, 8), lambda block: ("let", 4, ("lambda", (5,), block), 8),
            lambda block: ("set", 4, ("lambda", (5,), block), 8), lambda block: ("do", ("lambda", (5, 6), block), 8),
            lambda block: ("tell", ("not", ("lambda", (), block)), 8), lambda block: ("throw", ("ask", ("lambda", (), block), 2), 8),
            lambda block: ("return", ("call", ("lambda", (), block), (VAR, ("lambda", (), block))), 8),
            lambda block: ("if", ("lt", ("lambda", (), block), VAR), (), (), 8),
            lambda block: ("repeat", ("add", VAR, ("lambda", (), block)), (), 8),
        ):
            self.assertEqual(dead(Linked([("m", make(before))], [], [])).statements(), [("m", make(after))])
            self.assertEqual(cleaned((make(before), LET)), (make(after), LET))

    def test_what_is_kept_behind_the_end_is_cleaned(self):
        fun, let = ("fun", 2, (), (A, RETURN, B), 1), ("let", 3, ("lambda", (), (THROW, A)), 2)
        self.assertEqual(cleaned((RETURN, A, fun, B, let)), (RETURN, ("fun", 2, (), (A, RETURN), 1), ("let", 3, ("lambda", (), (THROW,)), 2)))

    def test_what_ends_is_cleaned(self):
        self.assertEqual(cleaned((("block", (THROW, A), 1), B)), (("block", (THROW,), 1),))
        self.assertEqual(cleaned((("if", VAR, (RETURN, A, FUN), (B, THROW, C), 1), B)), (("if", VAR, (RETURN, FUN), (B, THROW), 1),))
        self.assertEqual(cleaned((("return", ("lambda", (), (RETURN, A)), 1), B)), (("return", ("lambda", (), (RETURN,)), 1),))


class LinkedTest(unittest.TestCase):
    def test_the_top_is_no_block(self):
        top = [("m", THROW), ("m", A), ("n", ("block", (THROW,), 1)), ("n", B), ("n", LET), ("m", ("if", VAR, (THROW,), (THROW,), 2)), ("m", C)]
        self.assertEqual(dead(Linked(top, [], [])).statements(), top)

    def test_from_texts(self):
        self.assertEqual(statements("fun f(x) { return x; tell x; let y = 1; } throw f; tell 1;"), [
            ("fun", 0, (1,), (("return", ("var", 1), 11), ("let", 2, ("int", 1), 29)), 0), ("throw", VAR, 42), ("tell", ONE, 51)])
        self.assertEqual(statements("{ if 1 { throw 1; 2; } else { { throw 2; } } tell 1; }"), [
            ("block", (("if", ONE, (("throw", ONE, 9),), (("block", (("throw", ("int", 2), 32),), 30),), 2),), 0)])

    def test_what_stays_and_what_is_not_modified(self):
        modules = {"a": 'import {f} from "b"; export let x = f; { throw x; tell x; }', "b": "export fun f(p) { return p; let q = 1; tell q; }"}
        before = link(modules, "a")
        statements, exports, variables = before.statements(), before.exports(), before.variables()
        after = dead(before)
        self.assertIsInstance(after, Linked)
        self.assertEqual((after.exports(), after.variables()), (exports, variables))
        self.assertEqual([(module, statement[-1]) for module, statement in after.statements()],
                         [(module, statement[-1]) for module, statement in statements])
        self.assertNotEqual(after.statements(), statements)
        self.assertEqual((before.statements(), before.exports(), before.variables()), (statements, exports, variables))
        self.assertEqual(dead(after).statements(), after.statements())

    def test_nothing(self):
        found = dead(Linked([], [("x", 0)], [("let", "x", "m")]))
        self.assertEqual((found.statements(), found.exports(), found.variables()), ([], [("x", 0)], [("let", "x", "m")]))


if __name__ == "__main__":
    unittest.main()
