"""Points 2.5 and 2.6: depth and nesting."""

import sys
import unittest

from helper import DEPTH, NESTING, malformed, parsed


def nots(levels):
    """Return an expression of a number of levels."""
    return "not " * (levels - 1) + "a"


def blocks(levels):
    """Return a statement of a number of levels."""
    return "{" * levels + "}" * levels


# What holds an expression of 10 levels, and is one of 11.
EXPRESSIONS = (
    "not {}", "ask({})",
    "({}) or b", "b or ({})", "({}) and b", "b and ({})",
    "({}) < b", "b < ({})", "({}) == b", "b == ({})",
    "({}) + b", "b + ({})", "({}) - b", "b - ({})", "({}) * b", "b * ({})",
    "({})()", "({})(b)", "b({}, c)", "b(c, {})",
)

# What holds an expression of 11 levels, and is a statement of 12; < and > are for braces.
STATEMENTS = (
    "let b = {};", "b = {};", "{};", "tell {};", "throw {};",
    "if {} <>", "if {} <b;> else <b;>", "repeat {} <b;>", "export let b = {};",
)

# What holds a statement of 11 levels, and is one of 12.
HOLDERS = (
    "fun f() <{}>", "export fun f(a, b) <{}>",
    "if a <{}>", "if a <{}> else <b;>", "if a <> else <{}>",
    "repeat a <{}>", "try <{}> catch b <>", "try <> catch b <{}>",
    "<{}>", "<{} b;>", "<b; {}>",
)


def filled(form, text):
    return form.replace("{}", text).replace("<", "{").replace(">", "}")


class DepthTest(unittest.TestCase):
    def accepts(self, text):
        self.assertIsInstance(parsed(text), list, text)

    def refuses(self, text):
        self.assertEqual(parsed(text), DEPTH, text)

    def test_leaves_have_the_depth_one(self):
        for leaf in ("a", "a.b", "1", "true", "false", "none", "fun(){}", "fun(a,b){}"):
            self.accepts("not " * 10 + leaf + ";")
            self.refuses("not " * 11 + leaf + ";")

    def test_a_lambda_is_one_deeper_than_its_statements(self):
        self.accepts("a = fun() {" + "throw " + nots(9) + "; };")
        self.refuses("a = fun() {" + "throw " + nots(10) + "; };")
        self.accepts("a = fun() {" + blocks(10) + "};")
        self.refuses("a = fun() {" + blocks(11) + "};")
        self.accepts("a = fun() { b; " + blocks(10) + " b; };")
        self.refuses("a = fun() { b; " + blocks(11) + " b; };")

    def test_each_kind_of_expression(self):
        for form in EXPRESSIONS:
            self.accepts("tell " + form.replace("{}", nots(10)) + ";")
            self.refuses("tell " + form.replace("{}", nots(11)) + ";")

    def test_parentheses_have_no_depth(self):
        self.accepts("tell ((" + nots(11) + "));")
        self.refuses("tell ((" + nots(12) + "));")

    def test_each_kind_of_statement_with_an_expression(self):
        for form in STATEMENTS:
            self.accepts(filled(form, nots(11)))
            self.refuses(filled(form, nots(12)))

    def test_each_kind_of_statement_with_a_block(self):
        for form in HOLDERS:
            self.accepts(filled(form, blocks(11)))
            self.refuses(filled(form, blocks(12)))
            self.accepts(filled(form, "b = " + nots(10) + ";"))
            self.refuses(filled(form, "b = " + nots(11) + ";"))

    def test_return(self):
        self.accepts("fun f() { return " + nots(10) + "; }")
        self.refuses("fun f() { return " + nots(11) + "; }")

    def test_chains_to_the_left(self):
        for sign in ("or", "and", "+", "-", "*"):
            self.accepts("a" + f" {sign} a" * 10 + ";")
            self.refuses("a" + f" {sign} a" * 11 + ";")
        self.accepts("a" + "()" * 10 + ";")
        self.refuses("a" + "()" * 11 + ";")

    def test_empty_statements_have_the_depth_one(self):
        for text in ("{}", "fun f() {}", "try {} catch a {}"):
            self.accepts("{" * 11 + text + "}" * 11)
            self.refuses("{" * 12 + text + "}" * 12)

    def test_many_short_items_have_no_depth(self):
        self.accepts("a;" * 50)
        self.accepts("{" + "a;" * 50 + "}")

    def test_other_items_have_no_depth(self):
        self.accepts("export {" + ", ".join(["a as b"] * 50) + "};")

    def test_a_fault_in_the_grammar_of_the_same_item_comes_first(self):
        for text in ("a = " + nots(12), "a = " + nots(12) + ")", "if " + nots(12) + " {} else ",
                     "export let a = " + nots(12), "{" + nots(12) + ";", "try {" + nots(12) + ";} catch ",
                     blocks(12)[:-1], "fun f() {" + nots(12) + "; a"):
            at = len(text) - 1 if text.endswith(")") else len(text)
            self.assertEqual(parsed(text), malformed(at), text)
        self.assertEqual(parsed("if " + nots(12) + " {} else a;"), malformed(3 + 45 + 9))

    def test_a_fault_in_a_later_item_comes_later(self):
        for later in ("as", ")", "a", "}", "return a;", "let", "let a = 1", "else {}", "(" * 50):
            self.refuses("a = " + nots(12) + "; " + later)
            self.refuses("export let a = " + nots(12) + "; " + later)
            self.refuses("if " + nots(12) + " {} " + ("} " if later == "else {}" else later))

    def test_a_fault_in_an_earlier_item_comes_earlier(self):
        self.assertEqual(parsed("a b; a = " + nots(12) + ";"), malformed(2))

    def test_nesting_in_the_same_item_comes_first(self):
        self.assertEqual(parsed("f(" + nots(12) + "," + "(" * 50), NESTING)
        self.assertEqual(parsed("{ tell " + nots(12) + ";" + "{" * 50), NESTING)

    def test_what_the_tokens_refuse_comes_first(self):
        self.assertEqual(parsed("a = " + nots(12) + "; !"), malformed(51))

    def test_trees_that_are_much_deeper_than_any_recursion(self):
        text = chained(1) + ";"
        self.assertLess(len(text), 20000)
        self.refuses(text)
        self.assertEqual(parsed(text[:-1]), malformed(len(text) - 1))
        self.refuses("fun f() { return fun() { tell " + chained(3) + "; }; }")


def chained(level):
    """Return an expression at a level with all chains as long as they may be, on the left side."""
    more = 40 - level
    first = "(" + chained(level + 1) + ")" if more else "x"
    return first + "()" * more + "*x" * more + "+x" * more + " and x" * more + " or x" * more


class LevelsTest(unittest.TestCase):
    """Each test reads things at the levels 38 to 40, in forms whose depth is small."""

    def accepts(self, text):
        self.assertIsInstance(parsed(text), list, text)

    def at(self, level, text):
        """Return a statement with an expression at a level."""
        return "(" * (level - 1) + text + ")" * (level - 1) + ";"

    def check(self, form, most):
        """Check that an expression may begin at a level and at no greater one.

        The sign | stands in it where its level becomes greatest; there the refusal comes, whatever
        the next token is.
        """
        head, tail = form.split("|")
        self.accepts(self.at(most, head + tail))
        for behind in (tail + ")" * most + ";", "", ";", " let", "}", " as", '"a"', " 1"):
            text = "(" * most + head + behind
            self.assertEqual(parsed(text), NESTING, text)

    def test_parentheses(self):
        self.accepts("(" * 39 + "a" + ")" * 39 + ";")
        for behind in ("a" + ")" * 40 + ";", "", ";", ")", "let", "}"):
            self.assertEqual(parsed("(" * 40 + behind), NESTING)
        self.assertEqual(parsed("(" * 39), malformed(39))
        self.assertEqual(parsed("(" * 39 + ";"), malformed(39))
        self.check("(|a)", 39)

    def test_ask(self):
        self.check("ask(|a)", 39)
        self.assertEqual(parsed("ask(" * 39 + "a" + ")" * 39 + ";"), DEPTH)
        self.assertEqual(parsed("ask(" * 40), NESTING)
        self.assertEqual(parsed("(" * 39 + "ask"), malformed(42))
        self.assertEqual(parsed("(" * 39 + "ask a"), malformed(43))

    def test_not(self):
        self.check("not |a", 39)
        self.assertEqual(parsed("not " * 39 + "a;"), DEPTH)
        self.assertEqual(parsed("not " * 40 + "a;"), NESTING)
        self.assertEqual(parsed("not " * 39), malformed(39 * 4))
        self.assertEqual(parsed("not " * 40), NESTING)

    def test_comparisons(self):
        for sign in ("<", "=="):
            self.check(f"a {sign} |b", 39)
            self.check(f"(|a) {sign} b", 39)
            self.assertEqual(parsed(f"a {sign} (" * 19 + "a" + ")" * 19 + ";"), DEPTH)
            self.assertEqual(parsed(f"a {sign} (" * 19 + f"a {sign} a" + ")" * 19 + ";"), DEPTH)
            self.assertEqual(parsed(f"a {sign} (" * 19 + f"a {sign} ("), NESTING)

    def test_the_left_operand_of_a_comparison_has_no_level_of_its_own(self):
        for sign in ("<", "=="):
            self.accepts(self.at(38, f"a + b {sign} c + d"))
            self.accepts(self.at(39, f"a + b {sign} c"))
            self.assertEqual(parsed("(" * 38 + f"a + b {sign} c +"), NESTING)
            self.assertEqual(parsed("(" * 38 + f"a + b {sign} c"), malformed(38 + 8 + len(sign)))

    def test_blocks_of_functions(self):
        self.check("fun(a, b)|{}", 39)
        self.check("fun()|{let a = 1; tell a; return a;}", 39)
        self.assertEqual(parsed("(" * 39 + "fun(1"), malformed(43))
        self.assertEqual(parsed("(" * 39 + "fun(a"), malformed(44))

    def test_operators_in_a_chain(self):
        for sign in ("or", "and", "+", "-", "*"):
            self.check(f"a {sign} |b", 39)
            self.check(f"a {sign} b {sign} |c", 38)
            self.check(f"a {sign} b {sign} c {sign} |d", 37)
            self.assertEqual(parsed("a" + f" {sign} a" * 39 + ";"), DEPTH)
            self.assertEqual(parsed("a" + f" {sign} a" * 40 + ";"), NESTING)
            self.assertEqual(parsed("a" + f" {sign} a" * 39 + f" {sign}"), NESTING)
            self.assertEqual(parsed("a" + f" {sign} a" * 38 + f" {sign}"), malformed(1 + 39 * (3 + len(sign)) - 2))

    def test_sums_of_both_kinds_are_one_chain(self):
        self.check("a + b - |c", 38)
        self.check("a - b + c - |d", 37)

    def test_chains_of_different_kinds(self):
        self.check("a * b + |c", 39)
        self.check("a and b or |c", 39)
        self.check("a or b and |c", 38)
        self.check("a + b * |c", 38)
        self.check("a + b * c + |d", 38)
        self.check("a * b * c + |d", 38)
        self.check("a or b and c < |d", 37)
        self.check("a or not |b", 38)
        self.check("a or b and c < d + e * f(|g)", 33)

    def test_a_chain_in_parentheses_is_another_one(self):
        self.accepts("(a + a) + (a + a) + (a + a);")
        self.check("(a + a + a) + |a", 37)
        self.check("(a) + |a", 39)
        self.check("a + (|a)", 38)

    def test_the_opening_parenthesis_of_a_call(self):
        self.check("f(|)", 39)
        self.check("f()(|)", 38)
        self.check("f()()(|)", 37)
        self.assertEqual(parsed("f" + "()" * 39 + ";"), DEPTH)
        self.assertEqual(parsed("f" + "()" * 40 + ";"), NESTING)
        self.assertEqual(parsed("f" + "()" * 39 + "("), NESTING)
        self.assertEqual(parsed("f" + "()" * 39), malformed(79))
        self.assertEqual(parsed("(" * 39 + "f("), NESTING)

    def test_arguments(self):
        self.check("f(|a)", 38)
        self.check("f(|a, b)", 38)
        self.check("f()(|a)", 37)
        self.check("f(a)(|b)", 37)
        self.accepts(self.at(38, "f(a, b, c)"))
        self.assertEqual(parsed("f(" * 19 + "a" + ")" * 19 + ";"), DEPTH)
        self.assertEqual(parsed("f(" * 19 + "(a)" + ")" * 19 + ";"), DEPTH)
        self.assertEqual(parsed("f(" * 20 + "a" + ")" * 20 + ";"), NESTING)
        self.assertEqual(parsed("f(" * 19 + "((a))" + ")" * 19 + ";"), NESTING)
        self.assertEqual(parsed("f(" * 19 + "f()" + ")" * 19 + ";"), DEPTH)

    def test_a_call_inside_a_chain(self):
        self.check("a + f(|b)", 37)
        self.check("f(a) + |b", 38)
        self.accepts(self.at(38, "f(a) + b"))
        self.check("f() + |b", 39)

    def test_arguments_stand_beside_each_other(self):
        self.accepts("f(" + ", ".join(["a"] * 100) + ");")

    def test_names_and_numbers_have_no_level_of_their_own(self):
        for text in ("a", "a.b", "1", "true", "false", "none"):
            self.accepts(self.at(40, text))


class StatementLevelsTest(unittest.TestCase):
    BLOCKS = ("{}", "if a {}", "repeat a {}", "try {} catch a {}", "fun f(a) {}", "fun(a) {};")

    def around(self, level, text):
        """Return a text with a statement at a level, whose depth is small."""
        return "(" * (level - 2) + "fun(){" + text + "}" + ")" * (level - 2) + ";"

    def test_each_block(self):
        for text in self.BLOCKS:
            self.assertIsInstance(parsed(self.around(39, text)), list, text)
            self.assertEqual(parsed(self.around(40, text)), NESTING, text)

    def test_a_block_is_refused_before_its_brace_is_looked_at(self):
        for head in ("if a ", "repeat a ", "try ", "fun f(a) "):
            for behind in ("{", ";", "", "let"):
                before = "(" * 38 + "fun(){" + head
                self.assertEqual(parsed(before + behind), NESTING, before + behind)
                before = "(" * 37 + "fun(){" + head
                at = len(before) + (behind == "{")
                self.assertEqual(parsed(before + behind), malformed(at), before + behind)

    def test_the_second_blocks(self):
        for head in ("if a {} else ", "try {} catch a "):
            self.assertIsInstance(parsed(self.around(39, head + "{}")), list)
            before = "(" * 37 + "fun(){" + head
            self.assertEqual(parsed(before + ";"), malformed(len(before)))

    def test_nested_blocks(self):
        for head, tail in (("{", "}"), ("if a {", "}"), ("if a {} else {", "}"), ("repeat a {", "}"),
                           ("try {", "} catch a {}"), ("try {} catch a {", "}"), ("fun f() {", "}")):
            self.assertEqual(parsed(head * 39 + tail * 39), DEPTH, head)
            self.assertEqual(parsed(head * 40 + tail * 40), NESTING, head)
            self.assertEqual(parsed(head * 39 + "a;" + tail * 39), DEPTH, head)
            self.assertEqual(parsed(head * 39), malformed(39 * len(head)))
            self.assertEqual(parsed(head * 40), NESTING)

    def test_nested_lambdas(self):
        self.assertEqual(parsed("fun(){" * 39 + "};" * 39), DEPTH)
        self.assertEqual(parsed("fun(){" * 40 + "};" * 40), NESTING)
        self.assertEqual(parsed("fun(){a = " * 39 + "1;" + "};" * 39), DEPTH)

    def test_expressions_have_the_level_of_their_statement(self):
        for text in ("let a = (b);", "a = (b);", "(b);", "tell (b);", "throw (b);", "return (b);"):
            self.assertIsInstance(parsed(self.around(39, text)), list, text)
            self.assertEqual(parsed(self.around(40, text)), NESTING, text)
            self.assertIsInstance(parsed(self.around(40, text.replace("(b)", "b"))), list, text)
        for text in ("if (b) {}", "repeat (b) {}"):
            self.assertIsInstance(parsed(self.around(39, text)), list, text)
            self.assertEqual(parsed(self.around(40, text)), NESTING, text)

    def test_statements_of_a_block_have_its_level(self):
        text = "{" + "(a);" * 3 + "{(a);}" + "(a);}"
        self.assertIsInstance(parsed(self.around(37, text)), list)
        self.assertEqual(parsed(self.around(38, text)), NESTING)
        self.assertIsInstance(parsed("{}" * 100), list)
        self.assertIsInstance(parsed("{" + "{}" * 100 + "}"), list)

    def test_exported_declarations_are_at_the_top(self):
        self.assertIsInstance(parsed("export let a = " + "(" * 39 + "b" + ")" * 39 + ";"), list)
        self.assertEqual(parsed("export let a = " + "(" * 40 + "b" + ")" * 40 + ";"), NESTING)
        self.assertIsInstance(parsed("export fun f() {" + "(" * 38 + "b" + ")" * 38 + ";}"), list)
        self.assertEqual(parsed("export fun f() {" + "(" * 39 + "b" + ")" * 39 + ";}"), NESTING)

    def test_nesting_comes_where_it_is_reached(self):
        self.assertEqual(parsed("a b; " + "(" * 40), malformed(2))
        self.assertEqual(parsed("(" * 40 + "a b;"), NESTING)
        self.assertEqual(parsed("(" * 40 + "!"), malformed(40))
        self.assertEqual(parsed("a = " + "(" * 39 + "b c" + "(" * 9), malformed(45))

    def test_reading_needs_no_deep_recursion(self):
        # The heaviest way down: a block of a lambda in a let in a block of a lambda, and so on.
        text = "let a = fun(){" * 39 + "let a = f(1);" + "};" * 39
        found = []
        limit = sys.getrecursionlimit()
        try:
            sys.setrecursionlimit(stack_depth() + 520)
            found.append(parsed(text))
        finally:
            sys.setrecursionlimit(limit)
        self.assertEqual(found, [NESTING])


def stack_depth():
    frame = sys._getframe()
    depth = 0
    while frame is not None:
        depth += 1
        frame = frame.f_back
    return depth


if __name__ == "__main__":
    unittest.main()
