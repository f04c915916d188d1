"""Points 5.4 to 5.7: calls, the outside, statements and whole runs."""

import unittest

from fascicle.meaning import run

from helper import DEEP, EARLY, KIND, thrown, told

# A value of each kind that is no integer and no truth value, and one of both of these.
NO_NUMBERS = ("none", "fun() {}", "e")
NUMBERS = ("0", "1", "65535")
TRUTHS = ("true", "false")


def among(text):
    """Run statements where e is an error; return what is told."""
    return told(f"try {{ 1(); }} catch e {{ {text} }}")


class CallsTest(unittest.TestCase):
    def test_results(self):
        self.assertEqual(told("fun f() { return 1; } tell f();"), [1])
        self.assertEqual(told("fun f() {} tell f();"), [None])
        self.assertEqual(told("fun f() { 1; } tell f();"), [None])
        self.assertEqual(told("fun f() { return none; } tell f();"), [None])
        self.assertEqual(told("tell fun(a) { return a + 1; }(2);"), [3])
        self.assertEqual(told("fun f() { return f; } tell f() == f;"), [True])

    def test_nothing_behind_a_return(self):
        self.assertEqual(told("fun f() { return 1; tell 2; return 3; } tell f();"), [1])

    def test_arguments(self):
        text = "fun f(a, b) { tell a; tell b; } "
        self.assertEqual(told(text + "f();"), [None, None])
        self.assertEqual(told(text + "f(1);"), [1, None])
        self.assertEqual(told(text + "f(1, 2);"), [1, 2])
        self.assertEqual(told(text + "f(1, 2, 3);"), [1, 2])
        self.assertEqual(told(text + "f(f, none);"), ["fun", None])
        self.assertEqual(told("fun f() { return 1; } tell f(2, 3);"), [1])

    def test_further_arguments_are_evaluated(self):
        self.assertEqual(told("fun f() {} f(ask(1));"), [1])

    def test_what_is_no_function(self):
        for text in NO_NUMBERS[:1] + NO_NUMBERS[2:] + NUMBERS + TRUTHS:
            self.assertEqual(among(f"({text})();"), [thrown(KIND)], text)
            self.assertEqual(among(f"({text})(ask(1), ask(2));"), [1, 2, thrown(KIND)], text)

    def test_closures(self):
        text = "fun counter() { let n = 0; return fun() { n = n + 1; return n; }; } let a = counter(); let b = counter(); "
        self.assertEqual(told(text + "tell a(); tell a(); tell b(); tell a();"), [1, 2, 1, 3])
        text = "fun pair(n) { fun get() { return n; } fun set(m) { n = m; } return fun(k) { set(get() + k); return get(); }; } "
        self.assertEqual(told(text + "let p = pair(5); tell p(1); tell p(2); tell pair(5)(0);"), [6, 8, 5])
        self.assertEqual(told("fun add(a) { return fun(b) { return fun(c) { return a * 100 + b * 10 + c; }; }; } tell add(1)(2)(3);"), [123])

    def test_a_new_scope_in_each_run_of_a_block(self):
        text = "let a = none; let n = 0; repeat 3 { let x = n; n = n + 1; let old = a; a = fun() { if not old == none { old(); } tell x; x = x + 10; }; } "
        self.assertEqual(told(text + "a(); a();"), [0, 1, 2, 10, 11, 12])

    def test_a_function_keeps_the_name_behind_catch(self):
        self.assertEqual(told("let f = none; try { throw 7; } catch e { f = fun() { return e; }; } tell f();"), [7])

    def test_recursion(self):
        self.assertEqual(told("fun f(n) { if n < 1 { return 0; } return n + f(n - 1); } tell f(7);"), [28])

    def test_8_calls(self):
        text = "fun f(n) { if n == 1 { return ask(9); } return f(n - 1); } "
        self.assertEqual(told(text + "tell f(8);"), [9, 0])
        self.assertEqual(told(text + "tell f(9);"), [thrown(DEEP)])
        self.assertEqual(told(text + "try { f(9); } catch e { tell e; } tell f(8);"), [DEEP, 9, 0])
        self.assertEqual(told(text + "f(8); f(8); tell f(8);"), [9, 9, 9, 0])

    def test_8_calls_of_different_functions(self):
        text = "".join(f"fun f{index}() {{ return f{index + 1}(); }} " for index in range(1, 9)) + "fun f9() { return 5; } "
        self.assertEqual(told(text + "tell f2();"), [5])
        self.assertEqual(told(text + "tell f1();"), [thrown(DEEP)])

    def test_arguments_are_evaluated_before_the_call_goes_on(self):
        text = "fun f(x) { return x; } tell f(f(f(f(f(f(f(f(f(f(7))))))))));"
        self.assertEqual(told(text), [7])

    def test_calls_that_a_value_ends_go_on_no_longer(self):
        text = "fun f(n) { if n == 1 { throw n; } return f(n - 1); } "
        self.assertEqual(told(text + "try { f(8); } catch e {} try { f(8); } catch e { tell e; }"), [1])
        text = "fun f(n) { try { throw 1; } catch e { if n == 1 { return 5; } return f(n - 1); } } "
        self.assertEqual(told(text + "tell f(8); tell f(8); try { f(9); } catch e { tell e; }"), [5, 5, DEEP])
        text = "fun g(n) { if n == 0 { throw 3; } g(n - 1); } fun f(n) { try { g(5); } catch e { if n == 1 { return e; } return f(n - 1); } } "
        self.assertEqual(told(text + "tell f(2); tell f(3);"), [3, DEEP])

    def test_kind_comes_before_deep(self):
        text = "fun f(n) { if n == 1 { return 1(); } return f(n - 1); } f(8);"
        self.assertEqual(told(text), [thrown(KIND)])

    def test_deep_comes_before_the_budget(self):
        text = "repeat 7 {}" * 27 + "repeat 3 {} fun f(n) { if n == 1 { return f(0); } return f(n - 1); } "
        self.assertEqual(told(text + "f(8);"), [thrown(DEEP)])
        self.assertEqual(told("repeat 1 {}" + text + "f(8);"), [("weary",)])


class OutsideTest(unittest.TestCase):
    def test_answers(self):
        text = "tell ask(1); tell ask(2); tell ask(3);"
        self.assertEqual(told(text), [1, 0, 2, 0, 3, 0])
        self.assertEqual(told(text, (7, 8)), [1, 7, 2, 8, 3, 0])
        self.assertEqual(told(text, [7, 8, 9, 10]), [1, 7, 2, 8, 3, 9])
        self.assertEqual(told(text, (-1, 65536, 65535)), [1, 65535, 2, 0, 3, 65535])
        self.assertEqual(told(text, (-65536, 70000, -65537)), [1, 0, 2, 4464, 3, 65535])

    def test_the_answers_stay_as_they_are(self):
        answers = [70000, 2]
        for _ in range(2):
            self.assertEqual(run({"m": "tell ask(1) + ask(2);"}, "m", answers=answers)[0][-1][1], 4466)
            self.assertEqual(answers, [70000, 2])
        self.assertEqual(run({"m": "tell ask(1);"}, "m")[0], [("ask", 1, ("m", 5)), ("tell", 0, ("m", 0))])

    def test_events(self):
        text = " tell 1; ask(2); tell ask(3) + ask(4);"
        events, end, exports = run({"m": text}, "m", answers=(5, 6, 7))
        self.assertEqual(events, [("tell", 1, ("m", 1)), ("ask", 2, ("m", 9)), ("ask", 3, ("m", 22)), ("ask", 4, ("m", 31)),
                                  ("tell", 13, ("m", 17))])
        self.assertEqual((end, exports), (("done",), {}))

    def test_what_is_shown(self):
        for text, shown in (("1", 1), ("true", True), ("none", None), ("fun() {}", "fun"), ("e", KIND)):
            self.assertEqual(among(f"tell {text};"), [shown])
            self.assertEqual(among(f"ask({text});"), [shown])
            self.assertEqual(among(f"throw {text};"), [thrown(shown)])

    def test_the_place_is_where_the_word_stands(self):
        modules = {"a": 'import {f} from "b"; f(fun() { tell 1; return ask(2); });',
                   "b": 'import {g} from "c"; export fun f(h) { g(h); tell 4; }', "c": "export fun g(h) { return ask(h() + 3); }"}
        events, end, _ = run(modules, "a", answers=(5,))
        self.assertEqual(events, [("tell", 1, ("a", 31)), ("ask", 2, ("a", 46)), ("ask", 8, ("c", 25)), ("tell", 4, ("b", 45))])
        self.assertEqual(end, ("done",))

    def test_one_place_many_times(self):
        events, _, _ = run({"m": "repeat 3 { tell ask(1); }"}, "m")
        self.assertEqual(events, [("ask", 1, ("m", 16)), ("tell", 0, ("m", 11))] * 3)

    def test_the_example_of_the_interface(self):
        modules = {"a": 'import { f } from "b"; tell f(2);', "b": "export fun f(x) { return x + ask(x); }"}
        self.assertEqual(run(modules, "a", answers=[40]), ([("ask", 2, ("b", 29)), ("tell", 42, ("a", 23))], ("done",), {}))


class StatementsTest(unittest.TestCase):
    def test_if(self):
        self.assertEqual(told("if true { tell 1; } else { tell 2; } if false { tell 3; } else { tell 4; }"), [1, 4])
        self.assertEqual(told("if false { tell 1; } tell 2; if 1 < 2 { tell 3; }"), [2, 3])

    def test_if_with_another_value(self):
        for text in NO_NUMBERS + NUMBERS:
            self.assertEqual(among(f"if {text} {{ tell 1; }} else {{ tell 2; }}"), [thrown(KIND)])

    def test_repeat(self):
        for times, expected in ((0, 0), (1, 1), (7, 7), (8, 0), (9, 1), (15, 7), (16, 0), (65535, 7)):
            self.assertEqual(told(f"repeat {times} {{ tell 5; }}"), [5] * expected)

    def test_repeat_with_another_value(self):
        for text in NO_NUMBERS + TRUTHS:
            self.assertEqual(among(f"repeat {text} {{ tell 1; }}"), [thrown(KIND)])

    def test_the_number_is_evaluated_once(self):
        self.assertEqual(told("let n = 2; repeat n { n = n + 1; tell n; }"), [3, 4])
        self.assertEqual(told("repeat ask(1) { tell 2; }", (2,)), [1, 2, 2])

    def test_throw(self):
        for text, shown in (("1", 1), ("true", True), ("none", None), ("fun() {}", "fun"), ("e", KIND)):
            self.assertEqual(among(f"tell 0; throw {text}; tell 1;"), [0, thrown(shown)])
            self.assertEqual(among(f"try {{ throw {text}; tell 1; }} catch x {{ tell x; }} tell 2;"), [shown, 2])

    def test_a_caught_value_is_the_value_itself(self):
        self.assertEqual(told("fun f() {} try { throw f; } catch x { tell x == f; }"), [True])
        self.assertEqual(told("try { throw fun(a) { return a + 1; }; } catch x { tell x(1); }"), [2])

    def test_try_without_a_thrown_value(self):
        self.assertEqual(told("try { tell 1; } catch e { tell 2; } tell 3;"), [1, 3])

    def test_errors_are_caught(self):
        for text, error in (("1();", KIND), ("tell x; let x = 1;", EARLY), ("fun f() { f(); } f();", DEEP), ("if 1 {}", KIND),
                            ("repeat true {}", KIND), ("tell not 1;", KIND)):
            self.assertEqual(told(f"try {{ {text} }} catch e {{ tell e; }}"), [error])

    def test_what_the_second_block_throws(self):
        self.assertEqual(told("try { throw 1; } catch e { throw e + 1; }"), [thrown(2)])
        self.assertEqual(told("try { try { throw 1; } catch e { throw e + 1; } } catch e { tell e; }"), [2])
        self.assertEqual(told("try { try { throw 1; } catch e { tell e; } tell 2; } catch e { tell 3; }"), [1, 2])

    def test_caught_across_calls(self):
        self.assertEqual(told("fun f() { throw 1; } fun g() { f(); tell 2; } try { g(); tell 3; } catch e { tell e; }"), [1])
        self.assertEqual(told("fun f() { throw 1; } fun g() { try { f(); } catch e { return e + 1; } } tell g();"), [2])
        self.assertEqual(told("tell 1 + fun() { throw 5; }();"), [thrown(5)])

    def test_caught_across_modules(self):
        modules = {"a": 'import {f} from "b"; try { f(3); } catch e { tell e; }', "b": "export fun f(x) { throw x; }"}
        self.assertEqual(run(modules, "a"), ([("tell", 3, ("a", 45))], ("done",), {}))

    def test_blocks(self):
        self.assertEqual(told("{ tell 1; { tell 2; } } {} tell 3;"), [1, 2, 3])

    def test_return_within_statements(self):
        for text in ("{ return 1; }", "{ { return 1; } tell 2; }", "if true { return 1; }", "if false {} else { return 1; }",
                     "repeat 3 { return 1; }", "repeat 2 { repeat 2 { return 1; } tell 2; }", "try { return 1; } catch e { tell 2; }",
                     "try { throw 3; } catch e { return 1; }", "try { try { return 1; } catch e {} tell 2; } catch e { tell 2; }",
                     "repeat 7 { if true { try { { return 1; } } catch e {} } }"):
            self.assertEqual(told(f"fun f() {{ {text} tell 9; return 8; }} tell f(); tell 4;"), [1, 4], text)

    def test_a_return_of_an_inner_function(self):
        self.assertEqual(told("fun f() { fun g() { return 1; } g(); return 2; } tell f();"), [2])
        self.assertEqual(told("fun f() { repeat 2 { tell fun() { return 1; }(); } } tell f();"), [1, 1, None])

    def test_a_return_of_none_ends_the_function(self):
        self.assertEqual(told("fun f() { repeat 2 { return none; } tell 1; } tell f();"), [None])

    def test_a_value_that_is_thrown_while_returning(self):
        self.assertEqual(told("fun f() { try { return none + 1; } catch e { tell e; } return 2; } tell f();"), [KIND, 2])


class BudgetTest(unittest.TestCase):
    def test_calls(self):
        text = "fun f() {} " + "f();" * 200
        self.assertEqual(told(text + "tell 1;"), [1])
        self.assertEqual(told(text + "tell 1; f(); tell 2;"), [1, ("weary",)])

    def test_repeats(self):
        text = "repeat 7 {}" * 28 + "repeat 4 {}"
        self.assertEqual(told(text + "tell 1; repeat 8 {} repeat 0 {} tell 2;"), [1, 2])
        self.assertEqual(told(text + "tell 1; repeat 1 { tell 2; }"), [1, ("weary",)])
        self.assertEqual(told("repeat 7 {}" * 28 + "repeat 7 { tell 1; }"), [1, 1, 1, 1, ("weary",)])

    def test_repeats_in_repeats(self):
        # 7 and 49 are taken by each of the first three, which leaves 32: 1 and 7, four times.
        text = "repeat 7 { repeat 7 {} }" * 3
        self.assertEqual(told(text + "repeat 4 { tell 1; repeat 7 {} } tell 2;"), [1, 1, 1, 1, 2])
        self.assertEqual(told(text + "repeat 4 { tell 1; repeat 7 {} } tell 2; repeat 1 {}"), [1, 1, 1, 1, 2, ("weary",)])

    def test_calls_and_repeats(self):
        text = "fun f() {} " + "repeat 7 { f(); }" * 14
        self.assertEqual(told(text + "f(); f(); f(); tell 1; f(); tell 2;"), [1, 2])
        self.assertEqual(told(text + "f(); f(); f(); f(); tell 1; f(); tell 2;"), [1, ("weary",)])

    def test_what_takes_nothing(self):
        text = "let x = 1; fun f() {} " + "f();" * 200
        for more in ("tell 1;", "ask(1); tell 1;", "if true { tell 1; }", "try { throw 1; } catch e { tell e; }", "{ let f = fun() {}; tell 1; }",
                     "x = x * x; tell x;", "try { 1(); } catch e { tell 1; }"):
            self.assertEqual(told(text + more)[-1], 1, more)

    def test_nothing_catches_it(self):
        text = "fun f() {} " + "f();" * 200
        self.assertEqual(told(text + "try { f(); tell 1; } catch e { tell 2; } tell 3;"), [("weary",)])
        self.assertEqual(told(text + "try { repeat 1 {} } catch e { tell 2; } tell 3;"), [("weary",)])
        self.assertEqual(told("fun f(n) { try { f(n); } catch e { repeat 7 { f(n); } } } try { f(1); } catch e { tell 1; }"), [("weary",)])

    def test_the_arguments_are_evaluated_before_one_is_taken(self):
        text = "fun f() {} " + "f();" * 200
        self.assertEqual(told(text + "f(ask(1));"), [1, ("weary",)])
        self.assertEqual(told(text + "1(ask(1));"), [1, thrown(KIND)])

    def test_one_budget_for_all_modules(self):
        calls = "f();" * 100
        modules = {"a": f'import {{f}} from "b"; {calls} tell 1; f();', "b": f"export fun f() {{}} {calls}"}
        events, end, _ = run(modules, "a")
        self.assertEqual(([value for _, value, _ in events], end), ([1], ("weary",)))

    def test_each_run_has_its_own(self):
        text = "fun f() {} " + "f();" * 200
        self.assertEqual(told(text), [])
        self.assertEqual(told(text), [])


class RunsTest(unittest.TestCase):
    def test_the_order_of_the_modules(self):
        modules = {"a": 'tell 1; import "b"; import "c";', "b": 'tell 2; import "d";', "c": "tell 3;", "d": "tell 4;"}
        events, end, exports = run(modules, "a")
        self.assertEqual(events, [("tell", 4, ("d", 0)), ("tell", 2, ("b", 0)), ("tell", 3, ("c", 0)), ("tell", 1, ("a", 0))])
        self.assertEqual((end, exports), (("done",), {}))

    def test_each_module_runs_once(self):
        modules = {"a": 'import "b"; import "c"; import "a";', "b": 'import "c"; tell 1;', "c": 'import "b"; tell 2;'}
        self.assertEqual([value for _, value, _ in run(modules, "a")[0]], [2, 1])

    def test_a_thrown_value_ends_the_whole_run(self):
        modules = {"a": 'import "b"; import "c"; tell 1;', "b": "tell 2; throw 3; tell 4;", "c": "tell 5;"}
        self.assertEqual(run(modules, "a"), ([("tell", 2, ("b", 0))], ("thrown", 3), {}))

    def test_all_tops_are_entered_before_the_first_module_runs(self):
        modules = {"a": 'import "b"; export fun f() { return g(); } fun g() { return 1; }', "b": 'import {f} from "a"; tell f();'}
        self.assertEqual(run(modules, "a"), ([("tell", 1, ("b", 21))], ("done",), {"f": ("value", "fun")}))

    def test_exports_of_each_kind_of_value(self):
        text = ("export let i = 1; export let b = true; export let n = none; export fun f() {} export let l = fun() {}; "
                "export let e = 0; try { 1(); } catch x { e = x; }")
        self.assertEqual(run({"m": text}, "m"), ([], ("done",), {
            "b": ("value", True), "e": ("value", KIND), "f": ("value", "fun"), "i": ("value", 1), "l": ("value", "fun"),
            "n": ("value", None)}))

    def test_exports_are_ascending(self):
        text = 'export let z = 1; export let a = 2; export {a as B, z as _}; export * from "n"; export {k as c} from "n";'
        text = text.replace("_", "y_")
        exports = run({"m": text, "n": "export let k = 3; export let a = 4;"}, "m")[2]
        self.assertEqual(list(exports.items()), [("B", ("value", 2)), ("a", ("value", 2)), ("c", ("value", 3)), ("k", ("value", 3)),
                                                 ("y_", ("value", 1)), ("z", ("value", 1))])

    def test_only_the_entry_exports(self):
        modules = {"a": 'import {x} from "b"; export let y = x;', "b": "export let x = 1;"}
        self.assertEqual(run(modules, "a")[2], {"y": ("value", 1)})
        self.assertEqual(run(modules, "b")[2], {"x": ("value", 1)})

    def test_ambiguous_names_are_not_exported(self):
        modules = {"a": 'export * from "b"; export * from "c";', "b": "export let x = 1; export let y = 2;", "c": "export let x = 3;"}
        self.assertEqual(run(modules, "a"), ([], ("done",), {"y": ("value", 2)}))

    def test_exports_however_the_run_ends(self):
        text = "export let x = 1; export fun f() {{}} x = 2; {} x = 3; export let y = 4;"
        last = {"f": ("value", "fun"), "x": ("value", 3), "y": ("value", 4)}
        early = {"f": ("value", "fun"), "x": ("value", 2), "y": ("early",)}
        for middle, end, exports in (("tell 0;", ("done",), last), ("throw f;", thrown("fun"), early), ("1();", thrown(KIND), early),
                                     ("tell y;", thrown(EARLY), early), ("f();" * 201, ("weary",), early)):
            self.assertEqual(run({"m": text.format(middle)}, "m")[1:], (end, exports))

    def test_exports_of_modules_that_did_not_run(self):
        modules = {"a": 'import "b"; export let x = 1; export fun f() {} export * from "c";', "b": "throw 1;", "c": "export let y = 1;"}
        self.assertEqual(run(modules, "a")[2], {"f": ("value", "fun"), "x": ("early",), "y": ("early",)})

    def test_a_let_of_none_has_a_value(self):
        self.assertEqual(run({"m": "export let x = none; throw 1;"}, "m")[2], {"x": ("value", None)})

    def test_nothing_is_kept_from_one_run_to_the_next(self):
        modules = {"m": "export let x = 1; x = x + ask(x); tell x;"}
        for _ in range(2):
            self.assertEqual(run(modules, "m", answers=(4,)), ([("ask", 1, ("m", 26)), ("tell", 5, ("m", 34))], ("done",), {"x": ("value", 5)}))

    def test_the_deepest_run(self):
        # In each of 8 calls as many levels as an item may have are open.
        text = "fun f(n) { if true { repeat 1 { try { { if true { { { { return g(n); } } } } } } catch e { throw e; } } } } "
        text += "fun g(n) { return f" + "(f" * 8 + "(n)" + ")" * 8 + "; } f(1);"
        self.assertEqual(told(text), [thrown(DEEP)])


if __name__ == "__main__":
    unittest.main()
