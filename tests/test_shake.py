"""Point 7.3: shaking."""

import itertools
import random
import unittest

from fascicle.link import Linked, link
from fascicle.shake import accepts, left_out, removable, shake

from helper import refusal

ONE, NONE, TRUE = ("int", 1), ("none",), ("bool", True)
PAPER = ("BadOption", "paper")


def var(number):
    return ("var", number)


def calling(*numbers):
    """A lambda in which some variables occur."""
    return ("lambda", (), tuple(("do", var(number), 0) for number in numbers))


def tell(*numbers):
    """A statement that may not go, in which some variables occur."""
    return ("tell", calling(*numbers), 0)


def made(*statements, exports=()):
    """Linked modules with some statements, of two modules in turn, and some exported numbers."""
    pairs = [("ab"[at & 1], statement) for at, statement in enumerate(statements)]
    return Linked(pairs, [(f"x{number}", number) for number in exports], [("let", "x", "a")] * 30)


def linked(text, **modules):
    return link({"m": text, **modules}, "m")


def indexes_of(text, **modules):
    return removable(linked(text, **modules))


class MayGoTest(unittest.TestCase):
    def assert_may_go(self, statement, expected):
        found = made(statement)
        self.assertIs(accepts(found, [0]), expected, statement)
        self.assertEqual(removable(found), [0] if expected else [], statement)

    def test_what_may_go(self):
        for e in (ONE, ("int", 0), ("int", 65535), TRUE, ("bool", False), NONE, ("lambda", (), ()), ("lambda", (1, 2), (tell(1),))):
            self.assert_may_go(("let", 0, e, 5), True)
            self.assert_may_go(("do", e, 5), True)
        self.assert_may_go(("block", (), 5), True)
        self.assert_may_go(("fun", 0, (), (), 5), True)
        self.assert_may_go(("fun", 0, (1,), (tell(0, 1), ("return", ONE, 2)), 5), True)

    def test_what_may_not_go(self):
        for e in (var(3), ("call", ("lambda", (), ()), ()), ("ask", ONE, 2), ("not", TRUE), ("add", ONE, ONE), ("sub", ONE, ONE),
                  ("mul", ONE, ONE), ("lt", ONE, ONE), ("eq", ONE, ONE), ("and", TRUE, TRUE), ("or", TRUE, TRUE)):
            self.assert_may_go(("let", 0, e, 5), False)
            self.assert_may_go(("do", e, 5), False)
        for e in (ONE, NONE, ("lambda", (), ())):
            for statement in (("set", 0, e, 5), ("tell", e, 5), ("throw", e, 5), ("if", e, (), (), 5), ("repeat", e, (), 5)):
                self.assert_may_go(statement, False)
        self.assert_may_go(("try", (), 3, (), 5), False)
        self.assert_may_go(("repeat", ("int", 0), (), 5), False)
        self.assert_may_go(("if", TRUE, (), (), 5), False)
        for inner in (("block", (), 5), ("do", ONE, 5), ("let", 3, ONE, 5), ("fun", 3, (), (), 5), ("tell", ONE, 5)):
            self.assert_may_go(("block", (inner,), 5), False)


class AcceptsTest(unittest.TestCase):
    TOP = made(("let", 0, ONE, 0), tell(4), ("fun", 1, (), (), 0), ("do", NONE, 0), ("let", 4, ONE, 0), ("block", (), 0))

    def test_lists_that_are_accepted(self):
        for indexes in ([], [0], [2], [3], [5], [0, 2], [0, 2, 3, 5], [2, 5], [3, 5]):
            self.assertIs(accepts(self.TOP, indexes), True, indexes)

    def test_lists_that_are_not(self):
        for indexes in ([2, 0], [0, 0], [0, 2, 2], [5, 3], [3, 0, 5], [0, 5, 3], [-1], [-6], [-1, 0], [-6, 2], [6], [0, 6], [5, 6], [100],
                        [1], [0, 1], [1, 2], [0, 1, 2, 3, 5], [4], [0, 4], [0, 1, 2, 3, 4, 5]):
            self.assertIs(accepts(self.TOP, indexes), False, indexes)
            self.assertEqual(refusal(left_out, self.TOP, indexes), PAPER, indexes)

    def test_nothing_at_the_top(self):
        self.assertIs(accepts(made(), []), True)
        self.assertEqual(removable(made()), [])
        for indexes in ([0], [-1], [1]):
            self.assertIs(accepts(made(), indexes), False)

    def test_exports(self):
        found = made(("let", 0, ONE, 0), ("fun", 1, (), (), 0), ("let", 2, ONE, 0), exports=(1, 2))
        self.assertEqual([accepts(found, [index]) for index in range(3)], [True, False, False])
        self.assertIs(accepts(found, [0, 1, 2]), False)
        self.assertEqual(removable(found), [0])

    def test_a_variable_that_occurs_in_a_statement_that_stays(self):
        for user in (tell(0), ("set", 0, ONE, 0), ("let", 1, ("call", var(0), ()), 0), ("do", var(0), 0), ("throw", ("ask", var(0), 0), 0),
                     ("if", ONE, (tell(0),), (), 0), ("if", ONE, (), (tell(0),), 0), ("repeat", var(0), (), 0), ("repeat", ONE, (("set", 0, ONE, 0),), 0),
                     ("try", (tell(0),), 5, (), 0), ("try", (), 5, (tell(0),), 0), ("block", (tell(0),), 0), ("set", 1, var(0), 0)):
            for found, index in ((made(user, ("let", 0, ONE, 0)), 1), (made(("fun", 0, (), (), 0), user), 0)):
                self.assertIs(accepts(found, [index]), False, user)
                self.assertEqual(removable(found), [], user)

    def test_a_statement_that_could_go_but_stays(self):
        for user in (("let", 1, calling(0), 0), ("fun", 1, (), (tell(0),), 0), ("do", calling(0), 0)):
            found = made(("let", 0, ONE, 0), user)
            self.assertEqual([accepts(found, indexes) for indexes in ([], [0], [1], [0, 1])], [True, False, True, True])
            self.assertEqual(removable(found), [0, 1])

    def test_its_own_declaration(self):
        for statement in (("let", 0, calling(0), 0), ("fun", 0, (), (tell(0),), 0)):
            found = made(statement)
            self.assertIs(accepts(found, [0]), True)
            self.assertEqual(removable(found), [0])
        # The same variable is declared twice: nothing but the declarations lets it occur.
        self.assertIs(accepts(made(("let", 0, ONE, 0), ("let", 0, ONE, 0)), [1]), True)
        self.assertIs(accepts(made(("let", 0, ONE, 0), ("fun", 0, (), (), 0)), [0]), True)
        self.assertIs(accepts(made(("let", 0, ONE, 0), ("fun", 0, (), (tell(0),), 0)), [0]), False)
        self.assertIs(accepts(made(("let", 0, ONE, 0), ("let", 0, calling(0), 0)), [0]), False)
        self.assertIs(accepts(made(("let", 0, ONE, 0), ("set", 0, ONE, 0)), [0]), False)
        self.assertEqual(removable(made(("let", 0, ONE, 0), ("let", 0, calling(0), 0))), [0, 1])
        self.assertEqual(removable(made(("let", 0, ONE, 0), ("let", 0, calling(0), 0), tell(0))), [])


class RemovableTest(unittest.TestCase):
    def test_functions_that_use_each_other(self):
        self.assertEqual(indexes_of("fun f() { g(); } fun g() { h(); } fun h() { f(); } tell 1;"), [0, 1, 2])
        self.assertEqual(indexes_of("fun f() { g(); } fun g() { h(); } fun h() { f(); } tell h;"), [])
        self.assertEqual(indexes_of("fun f() { g(); } fun g() { g(); } fun h() { f(); } tell g;"), [0, 2])

    def test_chains(self):
        self.assertEqual(indexes_of("let a = 1; let b = fun() { a; }; fun c() { b; } tell c; let d = fun() { c; };"), [4])
        self.assertEqual(indexes_of("tell a; fun a() { b; } fun b() { c; } fun c() { d; } fun d() {} fun e() { a; }"), [5])
        self.assertEqual(indexes_of("fun d() {} fun c() { d; } fun b() { c; } fun a() { b; } export {b};"), [3])
        self.assertEqual(indexes_of("let x = y; let y = fun() { z; }; let z = 1; let u = 2;"), [3])

    def test_exports_and_modules(self):
        b = "export let x = 1; export let y = 2; export fun f() { x; } export fun g() { y; }"
        self.assertEqual(indexes_of('import {f} from "b"; tell f; let z = f;', b=b), [1, 3])
        self.assertEqual(indexes_of('export {g as h} from "b"; import * as s from "b";', b=b), [0, 2])
        self.assertEqual(indexes_of('import * as s from "b"; fun f() { s.x; }', b=b), [0, 1, 2, 3, 4])
        self.assertEqual(indexes_of('export * from "b";', b=b), [])

    def test_variables_of_inner_scopes(self):
        self.assertEqual(indexes_of("fun f(x) { let x = 1; tell x; } let x = 1; f(2);"), [1])
        self.assertEqual(indexes_of("let e = 1; try { let x = 1; tell x; } catch e { tell e; } let x = 2;"), [0, 2])

    def test_statements_that_declare_nothing(self):
        self.assertEqual(indexes_of("1; x; fun() { x; }; {} { {} } none; let x = 1; true;"), [0, 2, 3, 5, 7])


class LeftOutTest(unittest.TestCase):
    TEXT = "let a = 1; tell 1; fun f() { a; } {} let b = 2; export {b as c};"

    def test_left_out(self):
        before = linked(self.TEXT)
        pairs = before.statements()
        for indexes in ([], [3], [2], [0, 2], [2, 3], [0, 2, 3]):
            found = left_out(before, indexes)
            self.assertIsInstance(found, Linked)
            self.assertEqual(found.statements(), [pair for at, pair in enumerate(pairs) if at not in indexes])
            self.assertEqual((found.exports(), found.variables()), (before.exports(), before.variables()))
            self.assertEqual(before.statements(), pairs)

    def test_refused(self):
        before = linked(self.TEXT)
        # Not ascending, twice, negative, past the end, of a statement that may not go, exported, used by what stays.
        for indexes in ([2, 0], [0, 2, 2], [3, 3], [-1], [-2, 2], [5], [2, 7], [1], [0, 1, 2], [4], [2, 4], [0], [0, 3]):
            self.assertEqual(refusal(left_out, before, indexes), PAPER, indexes)

    def test_arguments_are_not_modified(self):
        before = linked(self.TEXT)
        indexes = [0, 2, 3]
        left_out(before, indexes)
        accepts(before, indexes)
        self.assertEqual(indexes, [0, 2, 3])
        self.assertEqual(len(before.statements()), 5)
        removable(before).append(5)
        self.assertEqual(removable(before), [0, 2, 3])

    def test_shake(self):
        before = linked(self.TEXT)
        self.assertEqual(removable(before), [0, 2, 3])
        found = shake(before)
        self.assertEqual(found.statements(), [("m", ("tell", ONE, 11)), ("m", ("let", 2, ("int", 2), 37))])
        self.assertEqual((found.exports(), found.variables()), ([("c", 2)], before.variables()))
        self.assertEqual(len(before.statements()), 5)
        self.assertEqual(shake(found).statements(), found.statements())
        self.assertEqual(shake(made()).statements(), [])


class AllListsTest(unittest.TestCase):
    """Small made modules, for which all lists of indexes are tried."""

    def statements(self, draw, count):
        found = []
        for number in range(count):
            occurring = tuple(draw.sample(range(count), draw.choice((0, 1, 1, 2))))
            found.append(draw.choice((
                ("let", number, calling(*occurring), 0), ("fun", number, (), (tell(*occurring),), 0), ("let", number, ONE, 0),
                ("let", number, calling(*occurring), 0), ("fun", number, (), (tell(*occurring),), 0), ("do", calling(*occurring), 0),
                ("let", number, ("call", calling(*occurring), ()), 0), ("block", (), 0), tell(*occurring[:1]), tell(),
            )))
        return found

    def words(self, statement):
        """The words of point 7.3: what a statement declares, and what occurs in it apart from this."""
        numbers = []

        def gather(tree):
            if isinstance(tree, tuple) and tree:
                if tree[0] == "var":
                    numbers.append(tree[1])
                for part in tree:
                    gather(part)

        gather(statement)
        return [statement[1]] if statement[0] in ("let", "fun") else [], numbers

    def expected(self, statements, exports, indexes):
        for index in indexes:
            kind = statements[index][0]
            if kind == "tell" or (kind == "let" and statements[index][2][0] == "call"):
                return False
        needed = set(exports)
        for index, statement in enumerate(statements):
            if index not in indexes:
                needed.update(self.words(statement)[1])
        return not any(needed & set(self.words(statements[index])[0]) for index in indexes)

    def test_all_lists(self):
        draw = random.Random(11)
        lengths = {}
        for _ in range(250):
            count = draw.randrange(2, 8)
            statements = self.statements(draw, count)
            exports = draw.sample(range(count), draw.choice((0, 0, 1)))
            exports = [number for number in exports if any(self.words(statement)[0] == [number] for statement in statements)]
            found = made(*statements, exports=exports)
            longest = []
            for length in range(count + 1):
                for indexes in itertools.combinations(range(count), length):
                    expected = self.expected(statements, exports, indexes)
                    self.assertIs(accepts(found, list(indexes)), expected, (statements, exports, indexes))
                    if expected and len(indexes) > len(longest):
                        longest = list(indexes)
            self.assertEqual(removable(found), longest)
            self.assertEqual(shake(found).statements(), [pair for at, pair in enumerate(found.statements()) if at not in longest])
            lengths[len(longest)] = lengths.get(len(longest), 0) + 1
        self.assertGreater(min(lengths.get(length, 0) for length in range(5)), 10, lengths)


if __name__ == "__main__":
    unittest.main()
