"""Points 6.1 and 6.2: linked modules and the numbers of their variables."""

import unittest

from fascicle.link import Linked, link

from helper import expression


def linked(text, **modules):
    return link({"m": text, **modules}, "m")


def statements(text):
    """The linked statements of a module alone."""
    pairs = linked(text).statements()
    assert all(module == "m" for module, _ in pairs)
    return [statement for _, statement in pairs]


def variables(text):
    """The kinds and names of the variables of a module alone, in the order of their numbers."""
    return " ".join(f"{kind}:{name}" for kind, name, module in linked(text).variables() if module == "m")


def var(number):
    return ("var", number)


class StatementsTest(unittest.TestCase):
    def test_each_kind_of_statement(self):
        for text, expected in (
            ("1;", ("do", ("int", 1), 0)),
            ("x;", ("do", var(0), 0)),
            ("let y = x;", ("let", 0, var(1), 0)),
            ("fun y(a, b) { return x; }", ("fun", 0, (2, 3), (("return", var(1), 14),), 0)),
            ("x = x;", ("set", 0, var(0), 0)),
            ("tell x;", ("tell", var(0), 0)),
            ("throw x;", ("throw", var(0), 0)),
            ("if x { x; }", ("if", var(0), (("do", var(0), 7),), (), 0)),
            ("if x { x; } else { tell x; }", ("if", var(0), (("do", var(0), 7),), (("tell", var(0), 19),), 0)),
            ("repeat x { x; }", ("repeat", var(0), (("do", var(0), 11),), 0)),
            ("try { x; } catch e { e; x; }", ("try", (("do", var(0), 6),), 1, (("do", var(1), 21), ("do", var(0), 24)), 0)),
            ("{ x; }", ("block", (("do", var(0), 2),), 0)),
            ("{}", ("block", (), 0)),
            ("{ let y = x; fun z() {} y = z; }",
             ("block", (("let", 1, var(0), 2), ("fun", 2, (), (), 13), ("set", 1, var(2), 24)), 0)),
        ):
            self.assertEqual(statements(text + " let x = 1;")[0], expected, text)

    def test_each_kind_of_expression(self):
        for text in ("1", "true", "false", "none", "not true", "1 + 2", "1 - 2", "1 * 2", "1 < 2", "1 == 2", "true and false",
                     "true or false", "ask(1)", "ask(1 + ask(2))", "1(2, 3)", "1()"):
            self.assertEqual(statements(f"let v={text};"), [("let", 0, expression(text), 0)])
        for text, expected in (
            ("x", var(0)), ("not x", ("not", var(0))), ("ask(x)", ("ask", var(0), 5)), ("x(x, 1)", ("call", var(0), (var(0), ("int", 1)))),
            ("fun(a) { return a + x; }", ("lambda", (1,), (("return", ("add", var(1), var(0)), 14),))), ("fun() {}", ("lambda", (), ())),
            ("x + 1", ("add", var(0), ("int", 1))), ("1 - x", ("sub", ("int", 1), var(0))), ("x * x", ("mul", var(0), var(0))),
            ("x < 1", ("lt", var(0), ("int", 1))), ("x == 1", ("eq", var(0), ("int", 1))), ("x and 1", ("and", var(0), ("int", 1))),
            ("x or 1", ("or", var(0), ("int", 1))),
        ):
            self.assertEqual(statements(f"tell {text}; let x = 1;")[0], ("tell", expected, 0), text)

    def test_the_order_of_the_modules(self):
        found = linked('tell 1; import "b"; tell 2;', b='tell 3; import "c";', c="tell 4; tell 5;").statements()
        self.assertEqual(found, [("c", ("tell", ("int", 4), 0)), ("c", ("tell", ("int", 5), 8)), ("b", ("tell", ("int", 3), 0)),
                                 ("m", ("tell", ("int", 1), 0)), ("m", ("tell", ("int", 2), 20))])

    def test_other_items_are_left_out(self):
        text = 'import "b"; import * as s from "b"; import {x} from "b"; export * from "b"; export {x as y} from "b"; export {x};'
        self.assertEqual(linked(text, b="let x = 1; export {x};").statements(), [("b", ("let", 0, ("int", 1), 0))])
        self.assertEqual(linked("export let x = 1; export fun f() {}").statements(),
                         [("m", ("let", 0, ("int", 1), 7)), ("m", ("fun", 1, (), (), 25))])

    def test_nothing(self):
        found = linked("")
        self.assertEqual((found.statements(), found.exports(), found.variables()), ([], [], []))


class NumbersTest(unittest.TestCase):
    def test_the_tops_of_all_modules_first(self):
        found = linked('fun g(p) {} import "b"; let x = 1;', b='{ let q = 1; } let x = 2; import "c"; fun f(p) {}', c="let z = fun(r) {};")
        self.assertEqual(found.variables(), [
            ("let", "z", "c"), ("let", "x", "b"), ("fun", "f", "b"), ("fun", "g", "m"), ("let", "x", "m"),
            ("param", "r", "c"), ("let", "q", "b"), ("param", "p", "b"), ("param", "p", "m")])

    def test_names_of_other_scopes_are_no_variables_of_the_top(self):
        self.assertEqual(variables("{ let a = 1; } let b = 1; try {} catch c {} fun d(e) { let f = 1; } export let g = 1; export fun h() {}"),
                         "let:b fun:d let:g fun:h let:a catch:c param:e let:f")

    def test_the_parameters_then_the_block_then_its_statements(self):
        self.assertEqual(variables("fun f(a, b) { { let e = 1; } let c = fun(g) {}; fun d(h) { let i = 1; } }"),
                         "fun:f param:a param:b let:c fun:d let:e param:g param:h let:i")
        self.assertEqual(variables("let f = fun(a, b) { { let e = 1; } let c = fun(g) {}; fun d(h) { let i = 1; } };"),
                         "let:f param:a param:b let:c fun:d let:e param:g param:h let:i")

    def test_the_blocks_of_if_and_repeat(self):
        self.assertEqual(variables("if fun(a) {} { fun(b) {}; let c = 1; } else { let d = fun(e) {}; }"), "param:a let:c param:b let:d param:e")
        self.assertEqual(variables("repeat fun(a) {} { fun(b) {}; let c = 1; }"), "param:a let:c param:b")

    def test_the_name_of_a_catch_after_its_first_block(self):
        self.assertEqual(variables("try { fun(b) {}; let a = 1; } catch c { fun(e) {}; let d = 1; }"), "let:a param:b catch:c let:d param:e")
        self.assertEqual(variables("try { try {} catch a {} } catch b { try {} catch c {} }"), "catch:a catch:b catch:c")

    def test_from_left_to_right(self):
        self.assertEqual(variables("tell fun(a) {}(fun(b) {}, fun(c) {}) + fun(d) { return fun(e) {}; } * fun(f) {};"),
                         "param:a param:b param:c param:d param:e param:f")
        self.assertEqual(variables("tell (fun(a) {} < fun(b) {}) == (fun(c) {} and not fun(d) {} or ask(fun(e) {}));"),
                         "param:a param:b param:c param:d param:e")

    def test_statement_by_statement(self):
        self.assertEqual(variables("let x = 1; let y = fun(a) {}; x = fun(b) {}; fun z(c) {} tell fun(d) {}; throw fun(e) {}; "
                                   "{ let f = 1; } fun(g) {}; fun w() { return fun(h) {}; }"),
                         "let:x let:y fun:z fun:w param:a param:b param:c param:d param:e let:f param:g param:h")

    def test_each_scope_has_variables_of_its_own(self):
        (statement,) = statements("{ let x = 1; { let x = 2; tell x; } tell x; }")
        self.assertEqual(statement[1], (("let", 0, ("int", 1), 2), ("block", (("let", 1, ("int", 2), 15), ("tell", var(1), 26)), 13),
                                        ("tell", var(0), 36)))
        (statement,) = statements("fun x(x) { tell x; let x = 1; }")
        self.assertEqual(statement, ("fun", 0, (1,), (("tell", var(2), 11), ("let", 2, ("int", 1), 19)), 0))
        (statement,) = statements("try { tell fun(e) { e; }; } catch e { e; let e = 1; { e = 2; } }")
        self.assertEqual(statement[1:4], ((("tell", ("lambda", (0,), (("do", var(0), 20),)), 6),), 1,
                                          (("do", var(2), 38), ("let", 2, ("int", 1), 41), ("block", (("set", 2, ("int", 2), 54),), 52))))

    def test_names_that_are_declared_later(self):
        self.assertEqual(statements("tell x; fun f() { return x; } let x = f;"),
                         [("tell", var(1), 0), ("fun", 0, (), (("return", var(1), 18),), 8), ("let", 1, var(0), 30)])


class SharedTest(unittest.TestCase):
    B = "let y = 1; export let x = 2; export {y as z}; export fun f() {}"

    def test_imported_names(self):
        found = linked('import {x, z as w, f} from "b"; tell x; tell w; tell f(); let v = x;', b=self.B)
        self.assertEqual(found.variables(), [("let", "y", "b"), ("let", "x", "b"), ("fun", "f", "b"), ("let", "v", "m")])
        self.assertEqual([statement[1:-1] for _, statement in found.statements()[3:]],
                         [(var(1),), (var(0),), (("call", var(2), ()),), (3, var(1))])

    def test_members(self):
        found = linked('import * as s from "b"; tell s.x; tell fun(x) { return s.z; }; tell s.f();', b=self.B)
        self.assertEqual([statement[1] for _, statement in found.statements()[3:]],
                         [var(1), ("lambda", (3,), (("return", var(0), 48),)), ("call", var(2), ())])

    def test_members_of_the_module_itself(self):
        found = linked('import * as s from "m"; export let x = 1; tell s.x; fun f(x) { return s.x; }')
        self.assertEqual([statement for _, statement in found.statements()],
                         [("let", 0, ("int", 1), 31), ("tell", var(0), 42), ("fun", 1, (2,), (("return", var(0), 63),), 52)])

    def test_through_several_modules(self):
        modules = {"b": self.B, "c": 'export * from "b"; let x = 5;', "d": 'import {z as x} from "c"; export {x as q};'}
        found = linked('import {x} from "c"; import {q} from "d"; import * as s from "c"; tell x; tell q; tell s.f;', **modules)
        self.assertEqual([name for _, name, _ in found.variables()], ["y", "x", "f", "x"])
        self.assertEqual([statement[1] for _, statement in found.statements()[4:]], [var(1), var(0), var(2)])

    def test_cycles(self):
        found = linked('import {g} from "b"; export fun f() { return g; }', b='import {f} from "m"; export fun g() { return f; }')
        self.assertEqual(found.variables(), [("fun", "g", "b"), ("fun", "f", "m")])
        self.assertEqual(found.statements(), [("b", ("fun", 0, (), (("return", var(1), 38),), 28)),
                                              ("m", ("fun", 1, (), (("return", var(0), 38),), 28))])

    def test_names_that_hide_an_import_or_a_space(self):
        found = linked('import {x} from "b"; import * as f from "b"; { let x = 1; tell x; } fun g(f) { return f; }', b=self.B)
        self.assertEqual(found.variables()[3:], [("fun", "g", "m"), ("let", "x", "m"), ("param", "f", "m")])
        self.assertEqual([statement for _, statement in found.statements()[3:]],
                         [("block", (("let", 4, ("int", 1), 47), ("tell", var(4), 58)), 45),
                          ("fun", 3, (5,), (("return", var(5), 79),), 68)])


class ExportsTest(unittest.TestCase):
    def test_ascending_by_name(self):
        found = linked('export let z = 1; export fun a() {} export {z as B, x as c}; import {x} from "b"; export * from "b";',
                       b="export let x = 1; let w = 1; export {w as y_};")
        self.assertEqual(found.exports(), [("B", 2), ("a", 3), ("c", 0), ("x", 0), ("y_", 1), ("z", 2)])

    def test_only_those_of_the_entry(self):
        self.assertEqual(linked('import "b";', b="export let x = 1;").exports(), [])

    def test_ambiguous_names(self):
        self.assertEqual(linked('export * from "b"; export * from "c";', b="export let x = 1; export let y = 1;", c="export let x = 1;").exports(),
                         [("y", 1)])


class LinkedTest(unittest.TestCase):
    def test_what_it_is_made_from(self):
        parts = [("m", ("tell", var(0), 5))], [("x", 0)], [("let", "x", "m")]
        found = Linked(*parts)
        self.assertEqual((found.statements(), found.exports(), found.variables()), parts)

    def test_with_statements(self):
        before = linked("export let x = 1; tell x;")
        after = before.with_statements([("m", ("tell", var(0), 5))])
        self.assertIsInstance(after, Linked)
        self.assertEqual(after.statements(), [("m", ("tell", var(0), 5))])
        self.assertEqual((after.exports(), after.variables()), ([("x", 0)], [("let", "x", "m")]))
        self.assertEqual(before.statements(), [("m", ("let", 0, ("int", 1), 7)), ("m", ("tell", var(0), 18))])

    def test_what_it_returns_is_the_caller_s(self):
        found = linked("export let x = 1;")
        for get in (found.statements, found.exports, found.variables):
            before = get()
            get().clear()
            self.assertEqual(get(), before)
            self.assertTrue(before)

    def test_what_it_is_made_from_is_the_caller_s(self):
        rows = [("m", ("tell", ("int", 1), 0))], [("x", 0)], [("let", "x", "m")]
        found = Linked(*rows)
        other = found.with_statements(rows[0])
        for row in rows:
            row.clear()
        for made in (found, other):
            self.assertEqual(made.statements(), [("m", ("tell", ("int", 1), 0))])
            self.assertEqual((made.exports(), made.variables()), ([("x", 0)], [("let", "x", "m")]))

    def test_nothing_is_kept_from_one_call_to_the_next(self):
        for _ in range(2):
            self.assertEqual(variables("let x = 1; { let y = 1; }"), "let:x let:y")


if __name__ == "__main__":
    unittest.main()
