"""Point 3.1: which modules are read, and in which order."""

import unittest

from fascicle.graph import Graph

from helper import refusal

FORMS = ('import "{}";', 'import * as s_{} from "{}";', 'import {{}} from "{}";', 'export {{}} from "{}";',
         'import {{x as x_{}}} from "{}";', 'export {{x as x_{}}} from "{}";', 'export * from "{}";')


def form(index, name):
    return FORMS[index].format(*[name] * FORMS[index].count("{}"))


def order(modules, entry="a"):
    return Graph(modules, entry).order()


def chain(count, last=""):
    """Modules m0, m1 and so on, each of which needs the next one."""
    modules = {f"m{index}": f'import "m{index + 1}";' for index in range(count - 1)}
    modules[f"m{count - 1}"] = last
    return modules


def fan(count, last):
    """An entry a that needs m1, m2 and so on, and then a last module; count modules before the last."""
    modules = {f"m{index}": "" for index in range(1, count)}
    modules["a"] = "".join(f'import "m{index}";' for index in range(1, count)) + f'import "{last}";'
    return modules


class OrderTest(unittest.TestCase):
    def test_the_entry_alone(self):
        graph = Graph({"a": "let x = 1;"}, "a")
        self.assertEqual(graph.order(), ["a"])
        self.assertEqual(graph.entry, "a")
        self.assertEqual(graph.module_items("a"), [("let", "x", ("int", 1), 0)])

    def test_each_form_of_item(self):
        for index in range(len(FORMS)):
            self.assertEqual(order({"a": form(index, "b"), "b": ""}), ["b", "a"], FORMS[index])

    def test_the_order_of_the_items(self):
        for first in range(len(FORMS)):
            for second in range(len(FORMS)):
                text = form(first, "c") + "tell 1;" + form(second, "b")
                self.assertEqual(order({"a": text, "b": "", "c": ""}), ["c", "b", "a"])

    def test_a_module_runs_behind_what_it_needs(self):
        modules = {"a": 'import "b"; import "c";', "b": 'import "d";', "c": 'import "e";', "d": "", "e": ""}
        self.assertEqual(order(modules), ["d", "b", "e", "c", "a"])

    def test_each_module_once(self):
        modules = {"a": 'import "b"; import "c"; import "b"; export * from "d";', "b": 'import "d";',
                   "c": 'import "d"; import "b";', "d": ""}
        self.assertEqual(order(modules), ["d", "b", "c", "a"])

    def test_exports_without_a_module_name_none(self):
        self.assertEqual(order({"a": "let b = 1; export {b as c}; export let d = 1;"}), ["a"])

    def test_cycles(self):
        self.assertEqual(order({"a": 'import "b";', "b": 'import "a";'}), ["b", "a"])
        self.assertEqual(order({"a": 'import "b";', "b": 'import "a";'}, "b"), ["a", "b"])
        modules = {"a": 'import "b";', "b": 'import "c"; import "d";', "c": 'import "a"; import "b";', "d": 'import "c";'}
        self.assertEqual(order(modules), ["c", "d", "b", "a"])
        self.assertEqual(order(modules, "c"), ["d", "b", "a", "c"])

    def test_a_module_that_needs_itself(self):
        for index in range(len(FORMS)):
            self.assertEqual(order({"a": form(index, "a")}), ["a"])

    def test_what_is_not_needed_is_not_read(self):
        graph = Graph({"a": "", "b": "@", "c": 'import "z";'}, "a")
        self.assertEqual(graph.order(), ["a"])

    def test_the_entry_is_what_the_caller_says(self):
        graph = Graph({"a": 'import "b";', "b": ""}, "b")
        self.assertEqual((graph.entry, graph.order()), ("b", ["b"]))


class RefusedTest(unittest.TestCase):
    def test_missing_modules(self):
        self.assertEqual(refusal(Graph, {}, "a"), ("NoModule", "a"))
        self.assertEqual(refusal(Graph, {"b": ""}, "a"), ("NoModule", "a"))
        for index in range(len(FORMS)):
            self.assertEqual(refusal(Graph, {"a": form(index, "b")}, "a"), ("NoModule", "b"))
        self.assertEqual(refusal(Graph, {"a": 'import "b";', "b": 'import "c";'}, "a"), ("NoModule", "c"))

    def test_40_modules(self):
        self.assertEqual(order(chain(40), "m0"), [f"m{index}" for index in range(39, -1, -1)])
        self.assertEqual(refusal(Graph, chain(41), "m0"), ("Oversized", "modules"))
        self.assertEqual(order({**fan(39, "z"), "z": ""}), [f"m{index}" for index in range(1, 39)] + ["z", "a"])
        self.assertEqual(refusal(Graph, {**fan(40, "z"), "z": ""}, "a"), ("Oversized", "modules"))

    def test_modules_that_are_not_needed_do_not_count(self):
        modules = {**chain(40), **{f"n{index}": "" for index in range(40)}}
        self.assertEqual(len(order(modules, "m0")), 40)

    def test_modules_that_were_read_may_be_named_again(self):
        modules = chain(40, 'import "m0"; import "m39"; import "m20";')
        self.assertEqual(len(order(modules, "m0")), 40)

    def test_a_missing_module_comes_before_the_limit(self):
        self.assertEqual(refusal(Graph, fan(40, "z"), "a"), ("NoModule", "z"))
        self.assertEqual(refusal(Graph, fan(39, "z"), "a"), ("NoModule", "z"))

    def test_the_limit_comes_before_the_text(self):
        self.assertEqual(refusal(Graph, {**fan(40, "z"), "z": "@"}, "a"), ("Oversized", "modules"))
        self.assertEqual(refusal(Graph, {**fan(39, "z"), "z": "@"}, "a"), ("Malformed", "z", 0))

    def test_what_reading_raises(self):
        self.assertEqual(refusal(Graph, {"a": "tell 1"}, "a"), ("Malformed", "a", 6))
        self.assertEqual(refusal(Graph, {"a": 'import "b";', "b": " tell;"}, "a"), ("Malformed", "b", 5))
        self.assertEqual(refusal(Graph, {"a": " " * 20001}, "a"), ("Oversized", "text"))
        self.assertEqual(refusal(Graph, {"a": "tell " + "1+" * 12 + "1;"}, "a"), ("Oversized", "depth"))
        self.assertEqual(refusal(Graph, {"a": "tell " + "(" * 40 + "1;"}, "a"), ("Oversized", "nesting"))

    def test_a_text_is_read_before_what_it_names(self):
        self.assertEqual(refusal(Graph, {"a": 'import "b"; @'}, "a"), ("Malformed", "a", 12))
        self.assertEqual(refusal(Graph, {"a": 'import "b"; tell'}, "a"), ("Malformed", "a", 16))

    def test_what_is_reached_first_is_refused_first(self):
        modules = {"a": 'import "b"; import "c";', "b": 'import "d";', "c": "@"}
        self.assertEqual(refusal(Graph, modules, "a"), ("NoModule", "d"))
        modules = {"a": 'import "b"; import "c";', "b": 'import "d";', "d": "@", "c": 'import "e";'}
        self.assertEqual(refusal(Graph, modules, "a"), ("Malformed", "d", 0))
        modules = {"a": 'import "b"; import "c";', "b": 'import "d";', "d": "", "c": "@"}
        self.assertEqual(refusal(Graph, modules, "a"), ("Malformed", "c", 0))

    def test_a_deep_text_behind_many_modules(self):
        deep = "tell " + "f(fun() { return " * 11 + "1" + "; })" * 11 + ";"
        self.assertEqual(refusal(Graph, chain(40, deep), "m0"), ("Oversized", "depth"))


class CopiesTest(unittest.TestCase):
    def test_what_a_graph_returns_is_the_caller_s(self):
        graph = Graph({"a": 'import {x as y} from "b"; import * as s from "b"; let z = 1;', "b": "export let x = 1;"}, "a")
        for get in (graph.order, lambda: graph.module_items("a"), lambda: graph.declared("a"),
                    lambda: graph.imported("a"), lambda: graph.spaces("a"), lambda: graph.exports("b")):
            before = get()
            get().clear()
            self.assertEqual(get(), before)
            self.assertTrue(before)

    def test_the_modules_stay_as_they_are(self):
        modules = {"a": 'import "b";', "b": ""}
        graph = Graph(modules, "a")
        self.assertEqual(modules, {"a": 'import "b";', "b": ""})
        modules["b"] = "tell 1;"
        self.assertEqual(graph.module_items("b"), [])
        self.assertEqual(len(Graph(modules, "a").module_items("b")), 1)


if __name__ == "__main__":
    unittest.main()
