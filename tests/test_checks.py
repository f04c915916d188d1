"""Points 4.1 to 4.3: what is checked, and what is refused first."""

import unittest

from fascicle.check import checked
from fascicle.graph import Graph
from fascicle.link import link
from fascicle.meaning import run

from helper import refusal

B = "export let x = 1; export fun f() {} let hidden = 1;"


def refused(text, **modules):
    """Return what is refused, by all that checks: modules with an entry m of this text, beside b."""
    modules = {"m": text, "b": B, **modules}
    found = refusal(checked, modules, "m")
    assert refusal(run, modules, "m") == found
    assert refusal(link, modules, "m") == found
    return found


def clashing(name):
    return ("Clashing", "m", name)


def unknown(name):
    return ("Unknown", "m", name)


def misused(name):
    return ("Misused", "m", name)


def fixed(name):
    return ("Fixed", "m", name)


# Where an expression may stand; each place can be checked on its own.
PLACES = (
    "let v = {};", "fun v() {{ return {}; }}", "fun v(p) {{ tell {}; }}", "let v = 1; v = {};", "{};", "tell {};",
    "throw {};", "if {} {{}}", "if 1 {{ tell {}; }}", "if 1 {{}} else {{ tell {}; }}", "repeat {} {{}}",
    "repeat 1 {{ {}; }}", "try {{ {}; }} catch v {{}}", "try {{}} catch v {{ {}; }}", "{{ {}; }}", "tell ask({});",
    "tell fun() {{ {}; }};", "tell fun(p) {{ return {}; }};", "tell ({})();", "tell 1({});", "tell 1(1, {});",
    "tell not ({});", "tell ({}) + 1;", "tell 1 + ({});", "tell 1 - ({});", "tell 1 * ({});", "tell 1 < ({});",
    "tell 1 == ({});", "tell 1 and ({});", "tell 1 or ({});", "tell ({}) or 1;", "tell ({}) == 1;",
    "repeat 1 {{ if 1 {{}} else {{ try {{}} catch v {{ tell fun() {{ return {}; }}; }} }} }}",
)


class CheckedTest(unittest.TestCase):
    def test_the_graph(self):
        found = checked({"m": 'import {x} from "b"; tell x;', "b": B}, "m")
        self.assertIsInstance(found, Graph)
        self.assertEqual((found.entry, found.order()), ("m", ["b", "m"]))

    def test_the_modules_are_read_first(self):
        self.assertEqual(refused('tell y; import "z";'), ("NoModule", "z"))
        self.assertEqual(refused('tell y; import "c";', c="@"), ("Malformed", "c", 0))

    def test_the_modules_are_checked_in_the_order_in_which_they_run(self):
        text = 'tell y; import "c"; import "d";'
        self.assertEqual(refused(text, c="", d=""), unknown("y"))
        self.assertEqual(refused(text, c="", d="tell z;"), ("Unknown", "d", "z"))
        self.assertEqual(refused(text, c="let z = 1; let z = 1;", d="tell z;"), ("Clashing", "c", "z"))
        self.assertEqual(refused(text, c='import "m"; tell w;', d="tell z;"), ("Unknown", "c", "w"))

    def test_what_is_not_needed_is_not_checked(self):
        self.assertIsNone(refused("", c="tell y;"))


class TopTest(unittest.TestCase):
    DECLARATIONS = ("let n = 1;", "fun n() {}", "export let n = 1;", "export fun n() {}", 'import {n} from "c";',
                    'import {x as n} from "c";', 'import {n, x as q} from "c";', 'import * as n from "c";')
    C = "export let n = 1; export let x = 1;"

    def test_one_declaration(self):
        for text in self.DECLARATIONS:
            self.assertIsNone(refused(text, c=self.C), text)

    def test_two_declarations(self):
        for first in self.DECLARATIONS:
            for second in self.DECLARATIONS:
                self.assertEqual(refused(f"let a = 1; {first} tell 1; {second}", c=self.C), clashing("n"), first + second)

    def test_two_names_in_one_import(self):
        self.assertEqual(refused('import {x, f as x} from "b";'), clashing("x"))
        self.assertEqual(refused('import {f as x, x} from "b";'), clashing("x"))
        self.assertIsNone(refused('import {x, x as y} from "b";'))

    def test_the_second_declaration_tells_which_comes_first(self):
        self.assertEqual(refused("let a = 1; let b = 1; let b = 2; let a = 2;"), clashing("b"))
        self.assertEqual(refused('let y = 1; let z = 1; import {x as z, x as y} from "b";'), clashing("z"))
        self.assertEqual(refused('import * as y from "b"; import {x as z} from "b"; let z = 1; let y = 1;'), clashing("z"))

    def test_a_block_is_another_scope(self):
        self.assertIsNone(refused("let a = 1; { let a = 2; } fun f(a) { let a = 3; fun f() {} } try {} catch a {}"))

    def test_exports_from_and_stars_declare_nothing(self):
        self.assertIsNone(refused('let x = 1; export {x as y} from "b"; export * from "b"; let y = 1;'))
        self.assertEqual(refused('export {x} from "b"; tell x;'), unknown("x"))
        self.assertEqual(refused('export * from "b"; tell x;'), unknown("x"))


class ExportsTest(unittest.TestCase):
    def test_names_that_are_declared_at_the_top(self):
        self.assertIsNone(refused("export {a, f}; let a = 1; fun f() {}"))
        self.assertIsNone(refused('export {x, y}; import {x, f as y} from "b";'))

    def test_names_that_are_not(self):
        self.assertEqual(refused("export {a};"), unknown("a"))
        self.assertEqual(refused("export {a as b}; let b = 1;"), unknown("a"))
        self.assertEqual(refused("{ let a = 1; } fun f(a) {} export {a};"), unknown("a"))
        self.assertEqual(refused('import {x as y} from "b"; export {x};'), unknown("x"))

    def test_spaces(self):
        self.assertEqual(refused('export {s}; import * as s from "b";'), misused("s"))
        self.assertEqual(refused('import * as s from "b"; export {s as t};'), misused("s"))

    def test_pair_by_pair(self):
        self.assertEqual(refused('import * as s from "b"; export {s, a};'), misused("s"))
        self.assertEqual(refused('import * as s from "b"; export {a, s};'), unknown("a"))
        self.assertEqual(refused('let b = 1; export {b, a, c};'), unknown("a"))

    def test_second_names(self):
        rows = ("export {a as n};", "export let n = 1;", "export fun n() {}", 'export {x as n} from "b";')
        for first in rows:
            for second in rows:
                if (first in rows[1:3]) and (second in rows[1:3]):
                    continue
                self.assertEqual(refused(f"let a = 1; {first} {second}"), clashing("n"), first + second)
        self.assertEqual(refused("let a = 1; let b = 1; export {a as n, b as n};"), clashing("n"))
        self.assertEqual(refused('export {x as n, f as n} from "b";'), clashing("n"))
        self.assertEqual(refused("let a = 1; export {a, a};"), clashing("a"))
        self.assertIsNone(refused("let a = 1; export {a, a as b};"))

    def test_stars_export_no_second_names(self):
        self.assertIsNone(refused('export * from "b"; export let x = 1; export * from "b";'))

    def test_first_names_before_second_names_of_an_item(self):
        self.assertEqual(refused("let a = 1; export {a, a, c};"), unknown("c"))
        self.assertEqual(refused('let a = 1; import * as s from "b"; export {a, a, s};'), misused("s"))

    def test_item_by_item(self):
        self.assertEqual(refused("let a = 1; export {a, a}; export {c};"), clashing("a"))
        self.assertEqual(refused("let a = 1; export {c}; export {a, a};"), unknown("c"))
        self.assertEqual(refused('let a = 1; export {x as a} from "b"; export {a}; export {c};'), clashing("a"))


class SearchesTest(unittest.TestCase):
    def test_what_is_exported(self):
        self.assertIsNone(refused('import {x, f} from "b"; export {x as y, f as g} from "b";'))

    def test_what_is_not(self):
        for name in ("hidden", "y"):
            for form in ("import", "export"):
                self.assertEqual(refused(f'{form} {{{name}}} from "b";'), ("NoExport", "b", name))
                self.assertEqual(refused(f'{form} {{x, {name} as z}} from "b";'), ("NoExport", "b", name))

    def test_what_is_ambiguous(self):
        c = 'export * from "b"; export * from "d";'
        self.assertEqual(refused('import {x} from "c";', c=c, d="export let x = 1;"), ("NoExport", "c", "x"))
        self.assertEqual(refused('export {x} from "c";', c=c, d="export let x = 1;"), ("NoExport", "c", "x"))
        self.assertIsNone(refused('export * from "c";', c=c, d="export let x = 1;"))
        self.assertIsNone(refused('export {x} from "c";', c=c, d='export {x} from "b";'))

    def test_modules_that_have_not_been_checked_are_searched(self):
        text = 'import {n} from "c"; export let y = 1;'
        self.assertEqual(refused(text, c='import {y} from "m"; let n = 1; tell z; export {n};'), ("Unknown", "c", "z"))
        # The module c is checked first, and its search goes through m, which is refused later.
        self.assertEqual(refused(text + "let y = 2;", c='import {z} from "m"; export {z as n};'), ("NoExport", "m", "z"))
        self.assertEqual(refused(text + "let y = 2;", c='import {y} from "m"; export {y as n};'), clashing("y"))
        self.assertEqual(refused(text + "export {n as w};", c='import {w} from "m"; export {w as n};'),
                         ("NoExport", "m", "w"))

    def test_item_by_item_and_pair_by_pair(self):
        self.assertEqual(refused('export {y, z} from "b"; import {w} from "b";'), ("NoExport", "b", "y"))
        self.assertEqual(refused('import {w} from "b"; export {y, z} from "b";'), ("NoExport", "b", "w"))
        self.assertEqual(refused('import {x} from "b"; import {u} from "m"; export {y} from "b";'), ("NoExport", "m", "u"))

    def test_needs_spaces_and_stars_ask_for_no_name(self):
        self.assertIsNone(refused('import "c"; import * as s from "c"; export * from "c"; import {} from "c";', c=""))


class OrderTest(unittest.TestCase):
    def test_the_order_within_a_module(self):
        for export in (("export {b};", unknown("b")), ('export {x as n, f as n} from "b";', clashing("n"))):
            rows = (("let a = 1; let a = 1;", clashing("a")), export, ('import {y} from "b";', ("NoExport", "b", "y")),
                    ("tell c;", unknown("c")))
            for first, (text, expected) in enumerate(rows):
                self.assertEqual(refused(text), expected)
                for other, _ in rows[first + 1:]:
                    self.assertEqual(refused(other + text), expected)

    def test_all_exports_before_all_imports(self):
        self.assertEqual(refused('import {y} from "b"; export {c};'), unknown("c"))
        self.assertEqual(refused('export {y} from "b"; export {c};'), unknown("c"))
        self.assertEqual(refused('export {y as n, z as n} from "b";'), clashing("n"))

    def test_the_statements_in_order(self):
        self.assertEqual(refused("tell a; { let b = 1; let b = 1; }"), unknown("a"))
        self.assertEqual(refused("{ let b = 1; let b = 1; } tell a;"), clashing("b"))
        self.assertEqual(refused("fun f() { tell a; } tell b;"), unknown("a"))
        self.assertEqual(refused("tell b; fun f() { tell a; }"), unknown("b"))


class ScopesTest(unittest.TestCase):
    def test_every_place_is_checked(self):
        for place in PLACES:
            self.assertIsNone(refused(place.format("1")), place)
            self.assertEqual(refused(place.format("a")), unknown("a"), place)
            self.assertEqual(refused("let a = 1;" + place.format("a")), None, place)
            self.assertEqual(refused("let a = 1;" + place.format("a.x")), misused("a"), place)
            self.assertEqual(refused('import * as s from "b";' + place.format("s")), misused("s"), place)
            self.assertEqual(refused('import * as s from "b";' + place.format("s.y")), ("NoExport", "b", "y"), place)
            self.assertIsNone(refused('import * as s from "b";' + place.format("s.x")), place)

    def test_names_that_are_declared_later(self):
        for text in ("tell a; let a = 1;", "tell a; fun a() {}", 'tell a; import {x as a} from "b";', "{ tell a; let a = 1; }",
                     "{ tell a; fun a() {} }", "fun f() { tell a; } let a = 1;", "fun f() { tell a; let a = 1; }",
                     "{ { tell a; } let a = 1; }", "let a = a;", "fun a() { a(); }", "if a {} let a = 1;",
                     "{ a = 1; let a = 2; }", 'tell s.x; import * as s from "b";'):
            self.assertIsNone(refused(text), text)

    def test_names_of_other_scopes(self):
        for text in ("{ let a = 1; } tell a;", "fun f(a) {} tell a;", "fun f() { let a = 1; } tell a;",
                     "try {} catch a {} tell a;", "try { tell a; } catch a {}", "try { let a = 1; } catch e { tell a; }",
                     "if 1 { let a = 1; } else { tell a; }", "if a { let a = 1; }", "repeat a { let a = 1; }",
                     "{ let a = 1; } { tell a; }", "{ fun a() {} } a();", "fun f() { fun a() {} } a();",
                     "tell fun(a) {}; tell a;", "tell fun(a) {}(a);", "fun f(a) {} fun g() { tell a; }"):
            self.assertEqual(refused(text), unknown("a"), text)

    def test_names_of_outer_scopes(self):
        for text in ("let a = 1; { { tell a; } }", "fun f(a) { { tell a; } }", "fun f(a) { fun g() { tell a; } }",
                     "try {} catch a { { tell a; } }", "try {} catch a { tell fun() { return a; }; }",
                     "tell fun(a) { tell fun() { return a; }; };", "if 1 { let a = 1; repeat a { tell a; } }",
                     "repeat 1 { let a = 1; if a { tell a; } else { tell a; } }", "{ let a = 1; try { tell a; } catch e { tell a; } }",
                     "fun f() { f(); }", "{ fun f() { f(); } }"):
            self.assertIsNone(refused(text), text)

    def test_two_declarations_in_a_block(self):
        for declarations in ("let a = 1; let a = 1;", "let a = 1; fun a() {}", "fun a() {} fun a() {}", "fun a() {} tell 1; let a = 1;"):
            for place in ("{{ {} }}", "if 1 {{ {} }}", "if 1 {{}} else {{ {} }}", "repeat 1 {{ {} }}", "try {{ {} }} catch e {{}}",
                          "try {{}} catch e {{ {} }}", "fun f() {{ {} }}", "tell fun() {{ {} }};", "fun f() {{ {{ {} }} }}"):
                self.assertEqual(refused(place.format(declarations)), clashing("a"), place)

    def test_two_parameters(self):
        for text in ("fun f(a, a) {}", "fun f(a, b, a) {}", "tell fun(a, a) {};", "{ fun f(a, a) {} }"):
            self.assertEqual(refused(text), clashing("a"), text)
        self.assertEqual(refused("fun f(a, b, b, a) {}"), clashing("b"))

    def test_a_block_inside_the_scope_of_its_parameters(self):
        for text in ("fun f(a) { let a = 1; }", "fun f(a) { fun a() {} }", "tell fun(a) { let a = a; };", "fun f(f) { let f = 1; }",
                     "let a = 1; fun f(a) { { let a = 1; } }"):
            self.assertIsNone(refused(text), text)

    def test_a_block_inside_the_scope_of_the_name_behind_catch(self):
        for text in ("try {} catch a { let a = 1; }", "try {} catch a { fun a() {} }", "try { let a = 1; } catch a { let a = 1; }",
                     "let a = 1; try {} catch a { tell a; }"):
            self.assertIsNone(refused(text), text)

    def test_declared_when_the_scope_begins(self):
        self.assertEqual(refused("{ tell z; let a = 1; let a = 1; }"), clashing("a"))
        self.assertEqual(refused("{ { let b = 1; let b = 1; } let a = 1; let a = 1; }"), clashing("a"))
        self.assertEqual(refused("fun f(a, a) { let b = 1; let b = 1; }"), clashing("a"))
        self.assertEqual(refused("fun f(a) { let b = 1; let b = 1; tell z; }"), clashing("b"))
        self.assertEqual(refused("if z { let a = 1; let a = 1; }"), unknown("z"))
        self.assertEqual(refused("{ let a = 1; let b = 1; let b = 1; let a = 1; }"), clashing("b"))

    def test_from_left_to_right(self):
        for text in ("tell a + b;", "tell a(b, c);", "tell 1(a, b);", "if a { tell b; } else { tell c; }", "tell (a < b) == c;",
                     "if 1 { tell a; } else { tell b; }", "repeat a { tell b; }", "try { tell a; } catch e { tell b; }",
                     "tell fun() { tell a; } + b;", "tell ask(a) - b;", "tell (not a) and b;", "tell 1 * a * b;", "a = b;",
                     "let d = a or b;", "throw a == b;", "tell ask(1) + (a - b);"):
            self.assertEqual(refused(text), unknown("a"), text)


class UsesTest(unittest.TestCase):
    SPACE = 'import * as s from "b";'

    def test_members(self):
        self.assertIsNone(refused(self.SPACE + "tell s.x; s.f(); fun g() { return s.x; }"))
        for name in ("hidden", "y", "s"):
            self.assertEqual(refused(f"{self.SPACE} tell s.{name};"), ("NoExport", "b", name))
        self.assertEqual(refused("tell s.x;"), unknown("s"))
        self.assertEqual(refused("tell s.x; let x = 1;"), unknown("s"))

    def test_a_space_of_an_ambiguous_name(self):
        c = 'export * from "b"; export * from "d";'
        self.assertEqual(refused('import * as s from "c"; tell s.x;', c=c, d="export let x = 1;"), ("NoExport", "c", "x"))
        self.assertIsNone(refused('import * as s from "c"; tell s.f;', c=c, d="export let x = 1;"))

    def test_other_names_before_a_dot(self):
        for text in ("let a = 1; tell a.x;", "fun a() {} tell a.x;", 'import {x as a} from "b"; tell a.x;', "fun f(a) { tell a.x; }",
                     "try {} catch a { tell a.x; }", "{ let a = 1; tell a.x; }"):
            self.assertEqual(refused(text), misused("a"), text)

    def test_names_that_hide_a_space(self):
        self.assertEqual(refused(self.SPACE + "{ let s = 1; tell s.x; }"), misused("s"))
        self.assertEqual(refused(self.SPACE + "fun f(s) { tell s.x; }"), misused("s"))
        self.assertIsNone(refused(self.SPACE + "fun f(s) { s = 1; tell s; } { let s = 2; tell s; }"))

    def test_misused_before_no_export(self):
        self.assertEqual(refused("let a = 1; tell a.y;"), misused("a"))

    def test_targets_that_may_change(self):
        for text in ("let a = 1; a = 2;", "a = 2; let a = 1;", "fun f(a) { a = 1; }", "try {} catch a { a = 1; }",
                     "let a = 1; fun f() { a = 2; }", "fun a() {} { let a = 1; a = 2; }", "fun a(a) { a = 1; }",
                     'import {x as a} from "b"; fun f(a) { a = 1; }', "export let a = 1; a = 2;"):
            self.assertIsNone(refused(text), text)

    def test_targets_that_may_not(self):
        for text in ("fun a() {} a = 1;", "a = 1; fun a() {}", 'import {x as a} from "b"; a = 1;', "fun a() { a = 1; }",
                     'import {f as a} from "b"; fun g() { a = 1; }', "{ fun a() {} { a = 1; } }", "let a = 1; { fun a() {} a = 1; }",
                     "fun f(a) { fun a() {} a = 1; }"):
            self.assertEqual(refused(text), fixed("a"), text)
        self.assertEqual(refused(self.SPACE + "s = 1;"), misused("s"))
        self.assertEqual(refused("a = 1;"), unknown("a"))

    def test_the_target_before_the_expression(self):
        self.assertEqual(refused("fun a() {} a = z;"), fixed("a"))
        self.assertEqual(refused(self.SPACE + "s = z;"), misused("s"))
        self.assertEqual(refused("a = z;"), unknown("a"))
        self.assertEqual(refused("let a = 1; a = z;"), unknown("z"))

    def test_the_module_of_the_error(self):
        self.assertEqual(refused('import "c";', c="fun a() {} a = 1;"), ("Fixed", "c", "a"))
        self.assertEqual(refused('import "c";', c='import * as s from "b"; tell s;'), ("Misused", "c", "s"))
        self.assertEqual(refused('import "c";', c="tell fun(a) { tell b; };"), ("Unknown", "c", "b"))
        self.assertEqual(refused('import "c";', c="tell fun(a, a) { tell b; };"), ("Clashing", "c", "a"))


class ArgumentsTest(unittest.TestCase):
    def test_the_modules_stay_as_they_are(self):
        modules = {"m": 'import {x} from "b"; tell x;', "b": B}
        for act in (checked, run, link):
            act(modules, "m")
            self.assertEqual(modules, {"m": 'import {x} from "b"; tell x;', "b": B})


if __name__ == "__main__":
    unittest.main()
