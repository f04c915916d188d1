"""Points 2.1 and 2.2: expressions."""

import unittest

from helper import expression, malformed, parsed


def var(name):
    return ("var", name)


A, B, C, D, F = var("a"), var("b"), var("c"), var("d"), var("f")

CHAINS = {"or": "or", "and": "and", "+": "add", "-": "sub", "*": "mul"}


class PrimariesTest(unittest.TestCase):
    def test_constants(self):
        for text, tree in (("0", ("int", 0)), ("65535", ("int", 65535)), ("true", ("bool", True)),
                           ("false", ("bool", False)), ("none", ("none",))):
            self.assertEqual(expression(text), tree)
        self.assertIs(expression("true")[1], True)
        self.assertIs(expression("false")[1], False)

    def test_variables_and_members(self):
        self.assertEqual(expression("a"), A)
        self.assertEqual(expression("a.b"), ("member", "a", "b"))
        self.assertEqual(expression("a . \n b"), ("member", "a", "b"))

    def test_members_of_anything_but_a_name(self):
        for text, at in (("a.b.c", 9), ("1.a", 7), ("f().a", 9), ("(a).b", 9), ("true.a", 10),
                         ("a.1", 8), ("a.let", 8), ("a.", 8), ('a."b"', 8), ("a.(b)", 8)):
            self.assertEqual(expression(text), malformed(at), text)

    def test_parentheses_leave_no_trace(self):
        self.assertEqual(expression("(a)"), A)
        self.assertEqual(expression("((((1))))"), ("int", 1))
        self.assertEqual(expression("(a.b)"), ("member", "a", "b"))

    def test_parentheses_that_are_refused(self):
        for text, at in (("()", 7), ("(a", 8), ("(a))", 9), ("(a,b)", 8), ("(a;)", 8)):
            self.assertEqual(expression(text), malformed(at), text)

    def test_ask(self):
        self.assertEqual(expression("ask(a)"), ("ask", A, 6))
        self.assertEqual(expression(" ask\n( 1 )"), ("ask", ("int", 1), 7))
        self.assertEqual(expression("ask(ask(a))"), ("ask", ("ask", A, 10), 6))
        self.assertEqual(expression("1+ask(a+b)*2"),
                         ("add", ("int", 1), ("mul", ("ask", ("add", A, B), 8), ("int", 2))))
        self.assertEqual(expression("ask(a)(b)"), ("call", ("ask", A, 6), (B,)))

    def test_ask_that_is_refused(self):
        for text, at in (("ask a", 10), ("ask()", 10), ("ask(a,b)", 11), ("ask", 9), ("ask(a", 11)):
            self.assertEqual(expression(text), malformed(at), text)

    def test_a_string_is_no_expression(self):
        for text in ('"a"', '"or"', '"true"', '"fun"'):
            self.assertEqual(expression(text), malformed(6))
        self.assertEqual(expression('a "or" b'), malformed(8))


class LambdasTest(unittest.TestCase):
    def test_parameters(self):
        self.assertEqual(expression("fun(){}"), ("lambda", (), ()))
        self.assertEqual(expression("fun(a){}"), ("lambda", ("a",), ()))
        self.assertEqual(expression("fun ( a , b , a ) { }"), ("lambda", ("a", "b", "a"), ()))

    def test_parameters_that_are_refused(self):
        for text, at in (("fun(a,){}", 12), ("fun(,a){}", 10), ("fun(a b){}", 12), ("fun(1){}", 10),
                         ("fun(let){}", 10), ("fun{}", 9), ("fun(a.b){}", 11), ("fun((a)){}", 10),
                         ("fun f(){}", 10), ("fun(a)", 12), ("fun(a);", 12), ("fun(a) a", 13)):
            self.assertEqual(expression(text), malformed(at), text)

    def test_the_block(self):
        self.assertEqual(
            expression("fun(a){tell a;return b;}"),
            ("lambda", ("a",), (("tell", A, 13), ("return", B, 20))),
        )

    def test_a_lambda_is_a_primary(self):
        self.assertEqual(expression("fun(){}(a)(b)"), ("call", ("call", ("lambda", (), ()), (A,)), (B,)))
        self.assertEqual(expression("1+fun(){}*2"),
                         ("add", ("int", 1), ("mul", ("lambda", (), ()), ("int", 2))))
        self.assertEqual(expression("fun(){return fun(b){};}"),
                         ("lambda", (), (("return", ("lambda", ("b",), ()), 12),)))


class CallsTest(unittest.TestCase):
    def test_arguments(self):
        self.assertEqual(expression("f()"), ("call", F, ()))
        self.assertEqual(expression("f(a)"), ("call", F, (A,)))
        self.assertEqual(expression("f ( a , b , c )"), ("call", F, (A, B, C)))
        self.assertEqual(expression("f(a or b, c+d)"), ("call", F, (("or", A, B), ("add", C, D))))
        self.assertEqual(expression("f(f(a))"), ("call", F, (("call", F, (A,)),)))

    def test_calls_of_calls(self):
        self.assertEqual(expression("f(a)(b,c)()"),
                         ("call", ("call", ("call", F, (A,)), (B, C)), ()))

    def test_what_is_called(self):
        self.assertEqual(expression("a.b(c)"), ("call", ("member", "a", "b"), (C,)))
        self.assertEqual(expression("(a+b)(c)"), ("call", ("add", A, B), (C,)))
        self.assertEqual(expression("1(a)"), ("call", ("int", 1), (A,)))
        self.assertEqual(expression("none()"), ("call", ("none",), ()))
        self.assertEqual(expression("(a)(b)"), ("call", A, (B,)))

    def test_calls_that_are_refused(self):
        for text, at in (("f(a,)", 10), ("f(,a)", 8), ("f(a b)", 10), ("f(a", 9), ("f(", 8),
                         ("f(a;b)", 9), ("f(a))", 10), ("f a", 8)):
            self.assertEqual(expression(text), malformed(at), text)


class OperatorsTest(unittest.TestCase):
    def test_each_operator(self):
        for sign, kind in {**CHAINS, "<": "lt", "==": "eq"}.items():
            self.assertEqual(expression(f"a {sign} b"), (kind, A, B))

    def test_repeated_operators_go_to_the_left(self):
        for sign, kind in CHAINS.items():
            self.assertEqual(expression(f"a {sign} b {sign} c {sign} d"),
                             (kind, (kind, (kind, A, B), C), D))
            self.assertEqual(expression(f"a {sign} (b {sign} c)"), (kind, A, (kind, B, C)))
            self.assertEqual(expression(f"(a {sign} b) {sign} c"), (kind, (kind, A, B), C))

    def test_sums_of_both_kinds(self):
        self.assertEqual(expression("a-b+c-d"), ("sub", ("add", ("sub", A, B), C), D))

    def test_the_levels_of_the_operators(self):
        levels = [("or", "or"), ("and", "and"), ("==", "eq"), ("+", "add"), ("*", "mul")]
        for low in range(5):
            for high in range(low + 1, 5):
                (weak, weak_kind), (strong, strong_kind) = levels[low], levels[high]
                self.assertEqual(expression(f"a {weak} b {strong} c"),
                                 (weak_kind, A, (strong_kind, B, C)))
                self.assertEqual(expression(f"a {strong} b {weak} c"),
                                 (weak_kind, (strong_kind, A, B), C))
                self.assertEqual(expression(f"a {strong} b {weak} c {strong} d"),
                                 (weak_kind, (strong_kind, A, B), (strong_kind, C, D)))

    def test_all_levels_at_once(self):
        self.assertEqual(
            expression("a or b and not c < d + f * a(b)"),
            ("or", A, ("and", B, ("not", ("lt", C, ("add", D, ("mul", F, ("call", A, (B,)))))))),
        )
        self.assertEqual(
            expression("a(b) * f - d == c and b or a"),
            ("or", ("and", ("eq", ("sub", ("mul", ("call", A, (B,)), F), D), C), B), A),
        )

    def test_comparisons(self):
        self.assertEqual(expression("a < b and c == d"), ("and", ("lt", A, B), ("eq", C, D)))
        self.assertEqual(expression("(a < b) == c"), ("eq", ("lt", A, B), C))
        self.assertEqual(expression("a == (b < c)"), ("eq", A, ("lt", B, C)))

    def test_a_second_comparison_is_refused(self):
        for first in ("<", "=="):
            for second in ("<", "=="):
                self.assertEqual(expression(f"a {first} b {second} c"), malformed(11 + len(first)))
                self.assertEqual(expression(f"not a {first} b {second} c"),
                                 malformed(15 + len(first)))

    def test_not(self):
        self.assertEqual(expression("not a"), ("not", A))
        self.assertEqual(expression("not not a"), ("not", ("not", A)))
        self.assertEqual(expression("not a == b"), ("not", ("eq", A, B)))
        self.assertEqual(expression("(not a) == b"), ("eq", ("not", A), B))
        self.assertEqual(expression("not a and not b"), ("and", ("not", A), ("not", B)))
        self.assertEqual(expression("not a or b"), ("or", ("not", A), B))
        self.assertEqual(expression("not f(a)"), ("not", ("call", F, (A,))))
        self.assertEqual(expression("a < (not b)"), ("lt", A, ("not", B)))

    def test_not_behind_operators_of_higher_levels(self):
        for sign in ("<", "==", "+", "-", "*"):
            self.assertEqual(expression(f"a {sign} not b"), malformed(9 + len(sign)))
        self.assertEqual(expression("f not a"), malformed(8))

    def test_operators_without_operands(self):
        for sign in [*CHAINS, "<", "=="]:
            self.assertEqual(expression(f" {sign} a"), malformed(7))
            self.assertEqual(expression(f"a {sign}"), malformed(8 + len(sign)))
            self.assertEqual(expression(f"(a {sign})"), malformed(9 + len(sign)))
            self.assertEqual(expression(f"a {sign} * b"), malformed(9 + len(sign)))
        self.assertEqual(expression("not"), malformed(9))
        self.assertEqual(expression("-a"), malformed(6))
        self.assertEqual(expression("a < = b"), malformed(10))

    def test_two_expressions_without_an_operator(self):
        for text, at in (("a b", 8), ("1 2", 8), ("a 1", 8), ("(a) b", 10), ("true false", 11),
                         ("a fun(){}", 8), ("a ask(b)", 8)):
            self.assertEqual(expression(text), malformed(at), text)

    def test_the_kinds_of_the_values(self):
        found = parsed("f(a, fun(b, c) { tell b; });")
        self.assertIs(type(found), list)
        call = found[0][1]
        self.assertEqual([type(call), type(call[2]), type(call[2][1][1]), type(call[2][1][2])],
                         [tuple] * 4)


if __name__ == "__main__":
    unittest.main()
