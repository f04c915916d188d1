"""Points 3.2 and 3.3: what exports stand for, and the names at the top of a module."""

import unittest

from fascicle.graph import Graph

HUB = "".join(f'import "{name}";' for name in "abcdef")


def graph(**modules):
    """The graph of modules a to f, whatever they need; those that are not given are empty."""
    return Graph({**dict.fromkeys("abcdef", ""), **modules, "hub": HUB}, "hub")


def resolved(wanted, **modules):
    return graph(**modules).resolve("a", wanted)


class TopTest(unittest.TestCase):
    def test_declared(self):
        self.assertEqual(graph(a="let y = 1; fun x() { let z = 1; } export let w = 2; { let v = 3; } export fun u(t) {}")
                         .declared("a"), ["y", "x", "w", "u"])
        self.assertEqual(graph(a='import {x} from "b"; import * as s from "b"; export {x as y}; tell 1; x = 2;')
                         .declared("a"), [])

    def test_declared_of_a_module_that_checking_would_refuse(self):
        self.assertEqual(graph(a="let x = 1; fun x() {}").declared("a"), ["x", "x"])

    def test_imported(self):
        found = graph(a='import {x, y as z} from "b"; import {} from "c"; import {x as w} from "c"; export {q} from "d";')
        self.assertEqual(found.imported("a"), {"x": ("b", "x"), "z": ("b", "y"), "w": ("c", "x")})
        self.assertEqual(found.imported("b"), {})

    def test_the_last_of_several_imports_under_one_name(self):
        self.assertEqual(graph(a='import {x, y as x} from "b"; import {z as x} from "c";').imported("a"), {"x": ("c", "z")})
        self.assertEqual(graph(a='import {x, y as x} from "b";').imported("a"), {"x": ("b", "y")})

    def test_spaces(self):
        found = graph(a='import * as s from "b"; import * as t from "b"; import * as u from "a"; import {x} from "c";')
        self.assertEqual(found.spaces("a"), {"s": "b", "t": "b", "u": "a"})
        self.assertEqual(found.spaces("b"), {})


class PairsTest(unittest.TestCase):
    def test_lets_and_functions(self):
        self.assertEqual(resolved("x", a="export let x = 1;"), ("a", "x"))
        self.assertEqual(resolved("x", a="export fun x() {}"), ("a", "x"))
        self.assertEqual(resolved("y", a="let x = 1; export {x as y};"), ("a", "x"))
        self.assertEqual(resolved("y", a="export {x as y}; fun x() {}"), ("a", "x"))

    def test_names_that_are_not_exported(self):
        self.assertIsNone(resolved("x", a="let x = 1;"))
        self.assertIsNone(resolved("x", a="let x = 1; export {x as y};"))
        self.assertIsNone(resolved("x"))
        self.assertIsNone(resolved("x", a='import {x} from "b";', b="export let x = 1;"))

    def test_first_names_that_stand_for_nothing(self):
        self.assertIsNone(resolved("x", a="export {x};"))
        self.assertIsNone(resolved("x", a="{ let x = 1; } fun f(x) { let x = 1; } export {x};"))
        self.assertIsNone(resolved("s", a='import * as s from "b"; export {s};', b="export let s = 1;"))
        self.assertIsNone(resolved("x", a='import {x} from "b"; export {x};'))
        self.assertIsNone(resolved("x", a='import {x} from "b"; export {x};', b="let x = 1;"))

    def test_imported_names(self):
        self.assertEqual(resolved("z", a='import {x as y} from "b"; export {y as z};', b="export let x = 1;"), ("b", "x"))
        self.assertEqual(resolved("z", a='export {y as z}; import {x as y} from "b";', b="export let x = 1;"), ("b", "x"))

    def test_a_declared_name_goes_before_an_imported_one(self):
        for text in ('let x = 1; import {x} from "b"; export {x};', 'import {x} from "b"; export {x}; fun x() {}'):
            self.assertEqual(resolved("x", a=text, b="export let x = 1;"), ("a", "x"))

    def test_an_imported_name_goes_before_a_space(self):
        self.assertEqual(resolved("x", a='import {x} from "b"; import * as x from "b"; export {x};',
                                  b="export let x = 1;"), ("b", "x"))

    def test_the_last_of_several_imports_under_one_name(self):
        modules = {"b": "export let x = 1;", "c": "export let x = 1; export let y = 1;"}
        text = 'import {x} from "b"; import {y as x} from "c"; export {x};'
        self.assertEqual(resolved("x", a=text, **modules), ("c", "y"))
        self.assertEqual(resolved("x", a='import {x, y as x} from "c"; export {x};', **modules), ("c", "y"))
        self.assertIsNone(resolved("x", a='import {x} from "b"; import {z as x} from "b"; export {x};', **modules))

    def test_exports_from(self):
        modules = {"b": "let x = 1; export {x as y};"}
        self.assertEqual(resolved("y", a='export {y} from "b";', **modules), ("b", "x"))
        self.assertEqual(resolved("z", a='export {y as z} from "b";', **modules), ("b", "x"))
        self.assertIsNone(resolved("y", a='export {y as z} from "b";', **modules))
        self.assertIsNone(resolved("x", a='export {x} from "b";', **modules))
        self.assertIsNone(resolved("x", a='export {x} from "b"; let x = 1;', **modules))

    def test_the_first_pair_counts(self):
        modules = {"b": "export let x = 1;", "c": "export let x = 1;"}
        self.assertEqual(resolved("x", a='export {x} from "b"; export {x} from "c";', **modules), ("b", "x"))
        self.assertEqual(resolved("x", a='let y = 1; export {y as x}; export {x} from "c";', **modules), ("a", "y"))
        self.assertEqual(resolved("x", a='let y = 1; export {x} from "c"; export {y as x};', **modules), ("c", "x"))
        self.assertEqual(resolved("x", a="let y = 1; let z = 1; export {y as x, z as x};"), ("a", "y"))
        self.assertEqual(resolved("x", a='export {z as x, x} from "b";', b="export let x = 1; export let z = 1;"), ("b", "z"))

    def test_the_first_pair_counts_also_if_it_stands_for_nothing(self):
        modules = {"b": "export let x = 1;"}
        self.assertIsNone(resolved("x", a='export {y as x}; export {x} from "b";', **modules))
        self.assertIsNone(resolved("x", a='export {x} from "c"; export {x} from "b";', **modules))
        self.assertIsNone(resolved("x", a='export {y as x}; export * from "b";', **modules))
        self.assertIsNone(resolved("x", a='export * from "b"; export {x} from "c";', **modules))

    def test_a_pair_goes_before_stars(self):
        modules = {"b": "export let x = 1;"}
        self.assertEqual(resolved("x", a='export * from "b"; export let x = 1;', **modules), ("a", "x"))
        self.assertEqual(resolved("x", a='export * from "b"; export {y as x} from "c";', c="export let y = 1;", **modules),
                         ("c", "y"))

    def test_chains(self):
        modules = {"a": 'export {b as x} from "b";', "b": 'import {c as d} from "c"; export {d as b};',
                   "c": 'export {e as c} from "d";', "d": 'export * from "e";', "e": "let f = 1; export {f as e};"}
        self.assertEqual(resolved("x", **modules), ("e", "f"))
        self.assertEqual(graph(**modules).resolve("d", "e"), ("e", "f"))
        self.assertIsNone(graph(**modules).resolve("d", "c"))


class StarsTest(unittest.TestCase):
    def test_one_star(self):
        self.assertEqual(resolved("x", a='export * from "b";', b="export let x = 1; let y = 1;"), ("b", "x"))
        self.assertIsNone(resolved("y", a='export * from "b";', b="export let x = 1; let y = 1;"))

    def test_stars_behind_stars(self):
        self.assertEqual(resolved("x", a='export * from "b";', b='export * from "c";', c='export * from "d";',
                                  d="export fun x() {}"), ("d", "x"))

    def test_only_one_of_two_stars_finds_a_variable(self):
        for first, second in (("b", "c"), ("c", "b")):
            self.assertEqual(resolved("x", a=f'export * from "{first}"; export * from "{second}";',
                                      b="export let x = 1;", c="export let y = 1;"), ("b", "x"))

    def test_a_diamond(self):
        modules = {"a": 'export * from "b"; export * from "c";', "d": "export let x = 1; export let y = 1;"}
        self.assertEqual(resolved("x", b='export * from "d";', c='export * from "d";', **modules), ("d", "x"))
        self.assertEqual(resolved("x", b='export {x} from "d";', c='import {x} from "d"; export {x};', **modules), ("d", "x"))

    def test_one_variable_found_several_times(self):
        modules = {"a": 'export * from "b"; export * from "c"; export * from "d"; export * from "b";',
                   "b": 'export {y as x} from "e";', "c": 'export {z as x} from "e";', "d": 'export {v as x} from "e";',
                   "e": "let v = 1; export {v, v as y, v as z};"}
        self.assertEqual(resolved("x", **modules), ("e", "v"))

    def test_two_variables(self):
        modules = {"a": 'export * from "b"; export * from "c";', "c": "export let x = 1;"}
        self.assertIsNone(resolved("x", b="export let x = 1;", **modules))
        self.assertIsNone(resolved("x", b='export {y as x} from "d";', d="export let y = 1;", **modules))
        self.assertIsNone(resolved("x", b='export {y as x} from "c";', **{**modules, "c": "export let x = 1; export let y = 1;"}))

    def test_a_third_star_does_not_help(self):
        modules = {"a": 'export * from "b"; export * from "c"; export * from "d";'}
        self.assertIsNone(resolved("x", b="export let x = 1;", c="export let x = 1;", d='export * from "b";', **modules))

    def test_a_search_inside_that_finds_two(self):
        two = {"d": 'export * from "e"; export * from "f";', "e": "export let x = 1;", "f": "export let x = 1;"}
        self.assertIsNone(resolved("x", a='export * from "d";', **two))
        self.assertIsNone(resolved("x", a='export {x} from "d";', **two))
        self.assertIsNone(resolved("x", a='import {x} from "d"; export {x};', **two))
        self.assertIsNone(resolved("x", a='export * from "b"; export * from "d";', b="export let y = 1;", **two))
        self.assertIsNone(resolved("x", a='export * from "d"; export * from "e";', **two))
        self.assertIsNone(resolved("x", a='export * from "e"; export * from "d";', **two))
        self.assertIsNone(resolved("x", a='export * from "b"; export * from "d";', b="export let x = 1;", **two))
        self.assertEqual(resolved("x", a='export * from "d"; export {x} from "f";', **two), ("f", "x"))

    def test_stars_that_find_two_variables_only_of_another_name(self):
        modules = {"a": 'export * from "b"; export * from "c";', "b": "export let x = 1; export let y = 1;",
                   "c": "export let x = 1; export let z = 1;"}
        self.assertEqual(graph(**modules).exports("a"), ["y", "z"])


class CyclesTest(unittest.TestCase):
    def test_exports_from(self):
        self.assertIsNone(resolved("x", a='export {x} from "a";'))
        self.assertIsNone(resolved("x", a='export {x} from "b";', b='export {x} from "a";'))
        self.assertIsNone(resolved("x", a='import {x} from "b"; export {x};', b='import {x} from "a"; export {x};'))
        self.assertIsNone(resolved("x", a='export {x as y, y as x} from "a";'))

    def test_another_name_in_the_same_module(self):
        self.assertEqual(resolved("x", a='export {y as x} from "a"; export let y = 1;'), ("a", "y"))
        self.assertEqual(resolved("x", a='export {y as x} from "b"; export {z as y} from "b"; export let z = 1;',
                                  b='export {y, z} from "a";'), ("a", "z"))

    def test_stars(self):
        self.assertIsNone(resolved("x", a='export * from "a";'))
        self.assertIsNone(resolved("x", a='export * from "b";', b='export * from "a";'))
        modules = {"a": 'export * from "b"; export * from "c";', "b": 'export * from "a"; export let y = 1;',
                   "c": "export let x = 1;"}
        self.assertEqual(resolved("x", **modules), ("c", "x"))
        self.assertEqual(graph(**modules).resolve("b", "x"), ("c", "x"))
        self.assertEqual(graph(**modules).exports("b"), ["x", "y"])

    def test_a_search_that_has_ended_is_not_made_again(self):
        # The search for x in d gives its variable to b; for c it gives nothing, which changes nothing.
        modules = {"a": 'export * from "b"; export * from "c";', "b": 'export * from "d";',
                   "c": 'export * from "d"; export * from "e";', "d": "export let x = 1;"}
        self.assertEqual(resolved("x", **modules), ("d", "x"))
        self.assertIsNone(resolved("x", e="export let x = 1;", **modules))

    def test_a_star_and_an_export_from_in_a_cycle(self):
        modules = {"a": 'export * from "b"; export * from "c";', "b": 'export {x} from "a";', "c": "export let x = 1;"}
        self.assertEqual(resolved("x", **modules), ("c", "x"))
        self.assertEqual(graph(**modules).resolve("b", "x"), ("c", "x"))

    def test_long_chains(self):
        pairs = ",".join(f"x{index + 1} as x{index}" for index in range(1200))
        modules = {"a": "let v = 1; export {v as x1200}; export {" + pairs + '} from "a";'}
        self.assertEqual(resolved("x0", **modules), ("a", "v"))
        self.assertEqual(len(graph(**modules).exports("a")), 1201)

    def test_many_stars_between_many_modules(self):
        names = [f"m{index}" for index in range(40)]
        stars = "".join(f'export * from "{name}";' for name in names)
        modules = {name: stars for name in names}
        modules["m17"] += "export let x = 1;"
        modules["m3"] += "export let y = 1;"
        modules["m4"] += "export let y = 1;"
        found = Graph(modules, "m0")
        for name in names:
            self.assertEqual(found.resolve(name, "x"), ("m17", "x"))
            self.assertEqual(found.exports(name), ["x", "y"] if name in ("m3", "m4") else ["x"])


class ExportsTest(unittest.TestCase):
    def test_ascending(self):
        self.assertEqual(graph(a="export let b = 1; export fun a() {} export let B = 1; export let a_ = 1; export let a1 = 1;")
                         .exports("a"), ["B", "a", "a1", "a_", "b"])
        self.assertEqual(graph(a='export * from "b"; export let m = 1;', b="export let z = 1; export let c = 1;")
                         .exports("a"), ["c", "m", "z"])

    def test_second_names(self):
        self.assertEqual(graph(a="let x = 1; export {x as z, x as y};").exports("a"), ["y", "z"])

    def test_names_without_a_variable(self):
        self.assertEqual(graph(a='export {x, y as z}; export {u} from "b"; export {w} from "b";', b="export let u = 1;")
                         .exports("a"), ["u"])
        self.assertEqual(graph(a='import {x} from "b";', b="export let x = 1;").exports("a"), [])

    def test_each_name_once(self):
        modules = {"a": 'export * from "b"; export * from "c"; export * from "d"; export let x = 1; export {x};',
                   "b": 'export * from "d"; export let x = 1;', "c": 'export * from "d";', "d": "export let y = 1;"}
        self.assertEqual(graph(**modules).exports("a"), ["x", "y"])
        self.assertEqual(graph(**modules).exports("b"), ["x", "y"])
        self.assertEqual(graph(**modules).exports("c"), ["y"])


if __name__ == "__main__":
    unittest.main()
