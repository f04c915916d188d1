"""Points 5.1 to 5.3: values, variables and expressions in a run."""

import unittest

from fascicle.meaning import run

from helper import EARLY, KIND, thrown, told, value

# One expression for each kind of value, with its shown form; e is bound by what stands around it.
VALUES = (
    ("0", 0), ("1", 1), ("65535", 65535), ("true", True), ("false", False), ("none", None), ("fun() {}", "fun"), ("g", "fun"),
    ("e", KIND),
)


def among(text):
    """Return the shown form of an expression, or the end of the run, where e is an error and g a function."""
    (found,) = told(f"fun g() {{}} try {{ 1(); }} catch e {{ tell {text}; }}")
    return found


class LiteralsTest(unittest.TestCase):
    def test_each_kind_of_value(self):
        for text, shown in VALUES:
            found = among(text)
            self.assertEqual(found, shown)
            self.assertIs(type(found), type(shown))


class NumbersTest(unittest.TestCase):
    def test_sums(self):
        for text, expected in (("1 + 2", 3), ("65535 + 0", 65535), ("65535 + 1", 0), ("65535 + 65535", 65534),
                               ("40000 + 40000", 14464), ("1 + 2 + 3", 6)):
            self.assertEqual(value(text), expected)

    def test_differences(self):
        for text, expected in (("3 - 2", 1), ("2 - 2", 0), ("0 - 1", 65535), ("0 - 65535", 1), ("1 - 2 - 3", 65532),
                               ("1 - (2 - 3)", 2)):
            self.assertEqual(value(text), expected)

    def test_products(self):
        for text, expected in (("3 * 2", 6), ("0 * 65535", 0), ("256 * 256", 0), ("65535 * 65535", 1), ("300 * 300", 24464),
                               ("2 + 3 * 4", 14), ("256 * 256 + 1", 1), ("(0 - 1) * 2", 65534)):
            self.assertEqual(value(text), expected)

    def test_comparisons(self):
        for text, expected in (("1 < 2", True), ("2 < 1", False), ("1 < 1", False), ("0 - 1 < 1", False), ("65535 + 1 < 1", True)):
            self.assertIs(value(text), expected)

    def test_other_operands(self):
        for sign in "+-*<":
            for left, _ in VALUES:
                for right, _ in VALUES:
                    if left.isdigit() and right.isdigit():
                        continue
                    self.assertEqual(among(f"({left}) {sign} ({right})"), thrown(KIND), left + sign + right)

    def test_both_operands_are_evaluated_first(self):
        for sign in "+-*<":
            self.assertEqual(told(f"tell none {sign} ask(1);"), [1, thrown(KIND)])
            self.assertEqual(told(f"tell ask(1) {sign} ask(2);")[:2], [1, 2])
            self.assertEqual(told(f"fun f() {{ throw 7; }} tell none {sign} f();"), [thrown(7)])
            self.assertEqual(told(f"fun f() {{ throw 7; }} tell f() {sign} ask(1);"), [thrown(7)])
            self.assertEqual(told(f"let x = 1; tell none {sign} y; let y = 2;"), [thrown(EARLY)])


class EqualTest(unittest.TestCase):
    def test_every_pair_of_values(self):
        for index, (left, shown) in enumerate(VALUES):
            for other, (right, _) in enumerate(VALUES):
                # Each evaluation of a lambda makes a function of its own.
                expected = index == other and left != "fun() {}"
                self.assertIs(among(f"({left}) == ({right})"), expected, left + right)

    def test_integers(self):
        self.assertIs(value("1 + 1 == 2"), True)
        self.assertIs(value("65535 + 1 == 0"), True)

    def test_truth_values_are_no_integers(self):
        for text in ("true == 1", "1 == true", "false == 0", "0 == false", "(1 < 2) == 1", "none == false", "none == 0"):
            self.assertIs(value(text), False)
        self.assertIs(value("(1 < 2) == true"), True)

    def test_functions(self):
        self.assertIs(value("f == f", "fun f() {}"), True)
        self.assertIs(value("f == g", "fun f() {} fun g() {}"), False)
        self.assertIs(value("f == g", "fun f() {} let g = f;"), True)
        self.assertIs(value("h() == h()", "fun h() { return fun() {}; }"), False)
        self.assertIs(value("h() == h()", "fun h() { fun i() {} return i; }"), False)
        self.assertIs(value("h() == h()", "fun i() {} fun h() { return i; }"), True)
        self.assertIs(value("h(f) == f", "fun f() {} fun h(x) { return x; }"), True)

    def test_a_declaration_makes_a_new_function_when_its_scope_is_entered(self):
        before = "let a = none; let b = none;"
        self.assertIs(value("a == b", before + "repeat 2 { fun f() {} a = b; b = f; }"), False)
        self.assertIs(value("a == b", before + "fun f() {} repeat 2 { a = b; b = f; }"), True)
        self.assertIs(value("a == b", before + "repeat 2 { a = b; b = fun() {}; }"), False)

    def test_errors(self):
        text = "try {{ {} }} catch a {{ try {{ {} }} catch b {{ tell a == b; }} }} let z = 1;"
        self.assertEqual(told(text.format("1();", "none + 1;")), [True])
        self.assertEqual(told(text.format("z;", "z = 1;")), [True])
        self.assertEqual(told(text.format("1();", "z;")), [False])

    def test_both_operands_are_evaluated(self):
        self.assertEqual(told("tell ask(1) == ask(2);", (3, 3)), [1, 2, True])


class TruthTest(unittest.TestCase):
    def test_truth_values(self):
        for left in (True, False):
            self.assertIs(value(f"not {left}".lower()), not left)
            for right in (True, False):
                self.assertIs(value(f"{left} and {right}".lower()), left and right)
                self.assertIs(value(f"{left} or {right}".lower()), left or right)

    def test_other_operands(self):
        for text, shown in VALUES:
            if isinstance(shown, bool):
                continue
            for operation in ("not ({})", "({}) and true", "({}) and false", "({}) or true", "({}) or false", "true and ({})",
                              "false or ({})", "true and true and ({})", "false or false or ({})"):
                self.assertEqual(among(operation.format(text)), thrown(KIND), operation + text)

    def test_the_right_operand_of_and(self):
        self.assertEqual(told("tell false and ask(1);"), [False])
        self.assertEqual(told("tell true and ask(1) == 0;"), [1, True])
        self.assertEqual(told("tell 1 and ask(1);"), [thrown(KIND)])
        self.assertEqual(told("tell true and ask(1);"), [1, thrown(KIND)])
        self.assertEqual(told("tell false and none;"), [False])

    def test_the_right_operand_of_or(self):
        self.assertEqual(told("tell true or ask(1);"), [True])
        self.assertEqual(told("tell false or ask(1) == 0;"), [1, True])
        self.assertEqual(told("tell 0 or ask(1);"), [thrown(KIND)])
        self.assertEqual(told("tell false or ask(1);"), [1, thrown(KIND)])
        self.assertEqual(told("tell true or none;"), [True])

    def test_mixed(self):
        self.assertIs(value("true or false and 1"), True)
        self.assertIs(value("not false and true"), True)
        self.assertIs(value("not 1 == 2"), True)


class OrderTest(unittest.TestCase):
    def test_from_left_to_right(self):
        for text, asked in (
            ("ask(1) + ask(2) * ask(3)", [1, 2, 3]), ("(ask(1) - ask(2)) * ask(3)", [1, 2, 3]), ("ask(1) < ask(2) - ask(3)", [1, 2, 3]),
            ("ask(1) == ask(2)", [1, 2]), ("ask(ask(1) + 2)", [1, 2]), ("ask(1) + ask(2 + ask(3))", [1, 3, 2]),
            ("not ask(1) == ask(2)", [1, 2]), ("ask(1) == 0 and ask(2) == 0 or ask(3) == 0", [1, 2]),
            ("ask(1) == 1 and ask(2) == 0 or ask(3) == 0", [1, 3]),
        ):
            self.assertEqual(told(f"tell {text};")[:-1], asked)

    def test_calls(self):
        text = "fun f(a, b) { ask(9); return f; } tell {};"
        for call, asked in (("f(ask(1), ask(2))", [1, 2, 9]), ("f(ask(1))(ask(2))", [1, 9, 2, 9]), ("f(1, f(ask(2)))", [2, 9, 9]),
                            ("f(ask(1), ask(2), ask(3))", [1, 2, 3, 9])):
            self.assertEqual(told(text.replace("{}", call))[:-1], asked)
        self.assertEqual(told("fun f() { ask(1); return none; } tell f()(ask(2));"), [1, 2, thrown(KIND)])
        self.assertEqual(told("tell 1(ask(1), ask(2));"), [1, 2, thrown(KIND)])


class VariablesTest(unittest.TestCase):
    def test_lets(self):
        self.assertEqual(told("let x = 1; tell x; x = x + 1; tell x;"), [1, 2])

    def test_read_before_the_let(self):
        for text in ("tell x; let x = 1;", "let x = x;", "let x = 1 + x;", "fun f() { return x; } f(); let x = 1;",
                     "{ x; let x = 1; }", "fun f() { x; let x = 1; } f();", "let x = 1; { tell x; let x = 2; }",
                     "fun f(x) { tell x; let x = 1; } f(1);", "try { throw 1; } catch x { tell x; let x = 1; }"):
            self.assertEqual(told(text), [thrown(EARLY)], text)

    def test_assigned_before_the_let(self):
        for text in ("x = 1; let x = 1;", "fun f() { x = 1; } f(); let x = 1;", "{ x = 1; let x = 1; }",
                     "let x = 1; { x = 2; let x = 3; }", "fun f(x) { x = 2; let x = 1; } f(1);"):
            self.assertEqual(told(text), [thrown(EARLY)], text)

    def test_the_expression_is_evaluated_before_the_target_is_looked_at(self):
        self.assertEqual(told("x = ask(1); let x = 1;"), [1, thrown(EARLY)])
        self.assertEqual(told("fun f() { throw 2; } x = f(); let x = 1;"), [thrown(2)])
        self.assertEqual(told("fun f() { return x; } x = f(); let x = 1;"), [thrown(EARLY)])
        self.assertEqual(told("let x = 1; fun f() { x = 2; return x + 3; } x = f(); tell x;"), [5])

    def test_a_let_that_throws_gives_no_value(self):
        self.assertEqual(told("try { tell y; } catch e { tell e; } let y = none + 1;"), [EARLY, thrown(KIND)])
        self.assertEqual(told("fun f() { return x; } try { { } let y = 1; } catch e {} try { f(); } catch e { tell e; } let x = 1; "
                              "tell f();"), [EARLY, 1])

    def test_a_let_in_a_block_that_is_entered_again(self):
        text = "let n = 0; repeat 2 { try { tell x; } catch e { tell e; } let x = n; n = n + 1; tell x; }"
        self.assertEqual(told(text), [EARLY, 0, EARLY, 1])
        text = "let n = 0; fun f() { if n == 0 { x = 1; } let x = 5; n = 1; x = x + 1; return x; } try { f(); } catch e { tell e; } tell n;"
        self.assertEqual(told(text), [EARLY, 0])
        text = "let first = none; repeat 2 { fun get() { return x; } if first == none { first = get; } else { tell first(); tell get(); } let x = 7; }"
        self.assertEqual(told(text), [7, thrown(EARLY)])

    def test_functions_have_their_values_when_the_scope_is_entered(self):
        for text in ("tell f(); fun f() { return 1; }", "{ tell f(); fun f() { return 1; } }", "let x = f(); fun f() { return 1; } tell x;",
                     "fun g() { return f(); fun f() { return 1; } } tell g();", "{ { tell f(); } fun f() { return 1; } }"):
            self.assertEqual(told(text), [1])

    def test_parameters_and_names_behind_catch_may_change(self):
        self.assertEqual(told("fun f(x) { x = x + 1; return x; } tell f(1); tell f(1);"), [2, 2])
        self.assertEqual(told("try { throw 1; } catch x { x = x + 1; tell x; }"), [2])

    def test_inner_scopes_hide_outer_ones(self):
        self.assertEqual(told("let x = 1; { let x = 2; x = 3; tell x; } tell x;"), [3, 1])
        self.assertEqual(told("let x = 1; fun f(x) { x = 5; { let x = 6; tell x; } tell x; } f(2); tell x;"), [6, 5, 1])
        self.assertEqual(told("fun f(x) { let x = 2; return x; } tell f(1);"), [2])

    def test_no_dynamic_scopes(self):
        self.assertEqual(told("let x = 1; fun f() { return x; } fun g() { let x = 2; return f(); } tell g();"), [1])


class SharedTest(unittest.TestCase):
    """Imports, members and exports stand for the variable itself."""

    def shown(self, **modules):
        events, end, exports = run(modules, "a")
        self.assertEqual(end, ("done",))
        return [value for _, value, _ in events], exports

    def test_an_import_follows_its_variable(self):
        b = "export let x = 1; export fun grow() { x = x + 1; }"
        self.assertEqual(self.shown(a='import {x, grow} from "b"; tell x; grow(); tell x;', b=b)[0], [1, 2])
        self.assertEqual(self.shown(a='import {x as y, grow} from "b"; fun f() { return y; } grow(); tell f();', b=b)[0], [2])
        self.assertEqual(self.shown(a='import {x} from "c"; import "d"; tell x;', b=b, c='export * from "b";',
                                    d='import * as s from "c"; s.grow(); s.grow();')[0], [3])

    def test_a_member_follows_its_variable(self):
        b = "export let x = 1; export fun grow() { x = x + 1; }"
        self.assertEqual(self.shown(a='import * as s from "b"; tell s.x; s.grow(); tell s.x;', b=b)[0], [1, 2])

    def test_a_member_of_the_module_itself(self):
        self.assertEqual(self.shown(a='import * as s from "a"; export let x = 1; x = 2; tell s.x; fun f(x) { return s.x + x; } tell f(5);')[0],
                         [2, 7])

    def test_exports_follow_their_variables(self):
        b = "export let x = 1; export fun grow() { x = x + 1; }"
        _, exports = self.shown(a='export {x, x as y} from "b"; import {x as z, grow} from "b"; export {z}; grow();', b=b)
        self.assertEqual(exports, {"x": ("value", 2), "y": ("value", 2), "z": ("value", 2)})

    def test_early_imports_in_a_cycle(self):
        modules = {"a": 'import "b"; export let x = 1;', "b": 'import {x} from "a"; try { tell x; } catch e { tell e; }'}
        self.assertEqual(self.shown(**modules)[0], [EARLY])
        modules["b"] = 'import * as s from "a"; try { tell s.x; } catch e { tell e; }'
        self.assertEqual(self.shown(**modules)[0], [EARLY])
        modules["b"] = 'import {set} from "a"; try { set(); } catch e { tell e; }'
        modules["a"] += "export fun set() { x = 2; }"
        self.assertEqual(self.shown(**modules)[0], [EARLY])

    def test_functions_of_a_module_that_runs_later(self):
        modules = {"a": 'import "b"; export fun f(n) { return n + 1; }', "b": 'import {f} from "a"; tell f(1);'}
        self.assertEqual(self.shown(**modules)[0], [2])
        modules["b"] = 'import * as s from "a"; tell s.f(1);'
        self.assertEqual(self.shown(**modules)[0], [2])

    def test_names_of_different_modules(self):
        self.assertEqual(self.shown(a='import {get} from "b"; let x = 1; tell get() + x; x = 2; tell get() + x;',
                                    b="let x = 10; export fun get() { return x; }")[0], [11, 12])

    def test_names_that_hide_an_import(self):
        self.assertEqual(self.shown(a='import {x} from "b"; fun f(x) { x = x + 1; return x; } tell f(5); tell x;', b="export let x = 1;")[0],
                         [6, 1])


if __name__ == "__main__":
    unittest.main()
