"""Points 2.1 and 2.4: imports and exports."""

import unittest

from fascicle.parser import parse

from helper import malformed, parsed

A = ("var", "a")

PAIRS = (
    ("{}", ()),
    ("{ }", ()),
    ("{a}", (("a", "a"),)),
    ("{a as b}", (("a", "b"),)),
    ("{a as a}", (("a", "a"),)),
    ("{a,b}", (("a", "a"), ("b", "b"))),
    ("{ a as b , c , d as e }", (("a", "b"), ("c", "c"), ("d", "e"))),
    ("{a,a}", (("a", "a"), ("a", "a"))),
)

BAD_PAIRS = (
    ("{a,}", 3), ("{,a}", 1), ("{a b}", 3), ("{as}", 1), ("{a as}", 5), ("{a as let}", 6), ("{1}", 1), ("{a as b as c}", 8),
    ("{a.b}", 2), ("{let}", 1), ('{"a"}', 1), ("{a;}", 2), ("{*}", 1), ('{a as "b"}', 6),
)


class ImportsTest(unittest.TestCase):
    def test_need(self):
        self.assertEqual(parsed('import "m";'), [("need", "m", 0)])
        self.assertEqual(parsed(' import"01_x";'), [("need", "01_x", 1)])

    def test_space(self):
        self.assertEqual(parsed('import * as s from "m";'), [("space", "m", "s", 0)])
        self.assertEqual(parsed(' import*as s from"m";'), [("space", "m", "s", 1)])

    def test_pairs(self):
        for text, pairs in PAIRS:
            self.assertEqual(parsed(f' import {text} from "m";'), [("import", "m", pairs, 1)])

    def test_imports_that_are_refused(self):
        for text, at in (("import;", 6), ("import a;", 7), ('import "m"', 10), ('import "m" as s;', 11), ("import *;", 8),
                         ('import * from "m";', 9), ("import * as s;", 13), ('import * as let from "m";', 12),
                         ("import * as s from m;", 19), ("import {a};", 10), ("import {a} from m;", 16),
                         ('import {a} "m";', 11), ('import {a} from "m"', 19), ('import * as s "m";', 14),
                         ('import "m" "n";', 11), ("import", 6), ("import {", 8), ("import *", 8), ('import a from "m";', 7),
                         ("import 1;", 7), ('import {a} from "m" a;', 20), ('import ("m");', 7),
                         ("import let a = 1;", 7)):
            self.assertEqual(parsed(text), malformed(at), text)

    def test_pairs_that_are_refused(self):
        for text, at in BAD_PAIRS:
            self.assertEqual(parsed(f'import {text} from "m";'), malformed(7 + at), text)
            self.assertEqual(parsed(f'export {text} from "m";'), malformed(7 + at), text)
            self.assertEqual(parsed(f"export {text};"), malformed(7 + at), text)


class ExportsTest(unittest.TestCase):
    def test_star(self):
        self.assertEqual(parsed('export * from "m";'), [("star", "m", 0)])
        self.assertEqual(parsed(' export*from"m";'), [("star", "m", 1)])

    def test_pairs(self):
        for text, pairs in PAIRS:
            self.assertEqual(parsed(f" export {text};"), [("export", pairs, 1)])

    def test_pairs_from_a_module(self):
        for text, pairs in PAIRS:
            self.assertEqual(parsed(f' export {text} from "m";'), [("from", "m", pairs, 1)])

    def test_exports_that_are_refused(self):
        for text, at in (("export;", 6), ("export a;", 7), ("export *;", 8), ('export * as s from "m";', 9),
                         ("export * from m;", 14), ("export {a}", 10), ("export {a} from;", 15), ("export {a} from m;", 16),
                         ('export {a} "m";', 11), ("export tell a;", 7), ("export {a;}", 9), ("export a = 1;", 7),
                         ("export fun(){};", 10), ("export fun(){}", 10), ("export", 6), ('export "m";', 7),
                         ("export export let a = 1;", 7), ("export let a;", 12), ("export let a = 1", 16),
                         ("export fun f(){};", 16), ("export if a {}", 7), ("export {a} as b;", 11), ("export fun", 10),
                         ('export * from "m"', 17), ('export {a} from "m" from "n";', 20)):
            self.assertEqual(parsed(text), malformed(at), text)

    def test_exported_let(self):
        self.assertEqual(parsed("export let x = a;"), [("let", "x", A, 7), ("export", (("x", "x"),), 0)])
        self.assertEqual(parsed(" export\n let x=a; a;"),
                         [("let", "x", A, 9), ("export", (("x", "x"),), 1), ("do", A, 18)])

    def test_exported_function(self):
        self.assertEqual(parsed("export fun f(b) { return a; }"),
                         [("fun", "f", ("b",), (("return", A, 18),), 7), ("export", (("f", "f"),), 0)])
        self.assertEqual(parsed(" export  fun f(){}a;"),
                         [("fun", "f", (), (), 9), ("export", (("f", "f"),), 1), ("do", A, 18)])

    def test_example_of_the_interface(self):
        self.assertEqual(
            parse("export let x = 1 + 2; tell x;", "m"),
            [("let", "x", ("add", ("int", 1), ("int", 2)), 7), ("export", (("x", "x"),), 0),
             ("tell", ("var", "x"), 22)],
        )


class PlacesTest(unittest.TestCase):
    def test_all_items_in_their_order(self):
        rows = ['import "m";', 'import * as s from "m";', 'import {a} from "m";', 'export * from "m";',
                'export {a} from "m";', "export {a};", "let a = a;", "a;"]
        text = "# head\n" + "\n".join(rows)
        places = [text.index(row) for row in rows[:6]] + [text.index("let a"), len(text) - 2]
        pairs = (("a", "a"),)
        self.assertEqual(
            parsed(text),
            [("need", "m", places[0]), ("space", "m", "s", places[1]), ("import", "m", pairs, places[2]),
             ("star", "m", places[3]), ("from", "m", pairs, places[4]), ("export", pairs, places[5]),
             ("let", "a", A, places[6]), ("do", A, places[7])],
        )

    def test_other_items_stand_only_at_the_top(self):
        for item in ('import "m";', "export {a};", "export let a = 1;", 'export * from "m";'):
            for before, after in (("{", "}"), ("if a {", "}"), ("repeat a {", "}"), ("try {", "} catch a {}"),
                                  ("try {} catch a {", "}"), ("fun f() {", "}"), ("a = fun() {", "};")):
                self.assertEqual(parsed(before + item + after), malformed(len(before)), before + item)

    def test_imports_may_stand_behind_statements(self):
        self.assertEqual(parsed('a; import "m";'), [("do", A, 0), ("need", "m", 3)])


if __name__ == "__main__":
    unittest.main()
