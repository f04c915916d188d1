"""Bundles: what is made of modules, in which order, and what is refused."""

import inspect
import unittest

from fascicle.bundle import PASSES, bundle, origin
from fascicle.dead import dead
from fascicle.fold import fold
from fascicle.link import link
from fascicle.meaning import run
from fascicle.names import names_for
from fascicle.parser import parse
from fascicle.printer import print_linked
from fascicle.shake import shake

from helper import refusal

B = "let y = 1; export fun f(x) { return x + 2 * 3; }"
MODULES = {"a": 'import { f } from "b"; tell f(2);', "b": B}


def text_of(text, **options):
    """The text of the bundle of a module alone."""
    return bundle({"m": text}, "m", **options)[0]


def mapped(modules, entry, answers=(), **options):
    """Run a bundle; return its events with the places in the modules that it comes from, its end and its exports."""
    text, places = bundle(modules, entry, **options)
    events, end, exports = run({"bundle": text}, "bundle", answers=answers)
    assert all(module == "bundle" for _, _, (module, _) in events)
    return [(kind, shown, origin(places, at)) for kind, shown, (_, at) in events], end, exports


class ExamplesTest(unittest.TestCase):
    def test_the_example_of_the_document(self):
        self.assertEqual(bundle(MODULES, "a"), ("fun a(a){return(a+6);}tell(a)(2);", [(0, "b", 18), (9, "b", 29), (22, "a", 23)]))

    def test_its_other_forms(self):
        def made(**options):
            return bundle(MODULES, "a", **options)

        self.assertEqual(made(passes=()), ("let a=1;fun b(a){return(a+(2*3));}tell(b)(2);", [(0, "b", 0), (8, "b", 18), (17, "b", 29), (34, "a", 23)]))
        self.assertEqual(made(passes=["shake"], naming="kept"), ("fun f(x){return(x+(2*3));}tell(f)(2);", [(0, "b", 18), (9, "b", 29), (26, "a", 23)]))
        self.assertEqual(made(passes=("fold",), naming="plain", layout="lines"),
                         ("let v0=1;\nfun v1(v2){\nreturn(v2+6);\n}\ntell(v1)(2);\n", [(0, "b", 0), (10, "b", 18), (22, "b", 29), (38, "a", 23)]))
        self.assertEqual(bundle(MODULES, "b"), ("fun a(a){return(a+6);}export{a as f};", [(0, "b", 18), (9, "b", 29)]))
        self.assertEqual(bundle({"a": ""}, "a"), ("", []))

    def test_its_run(self):
        self.assertEqual(run(MODULES, "a"), ([("tell", 8, ("a", 23))], ("done",), {}))
        self.assertEqual(mapped(MODULES, "a"), run(MODULES, "a"))


class PassesTest(unittest.TestCase):
    def test_the_passes(self):
        self.assertEqual(PASSES, ("fold", "dead", "shake"))
        self.assertIsInstance(PASSES, tuple)

    def test_the_defaults(self):
        parameters = inspect.signature(bundle).parameters
        self.assertEqual({name: parameter.default for name, parameter in parameters.items() if parameter.kind is parameter.KEYWORD_ONLY},
                         {"passes": PASSES, "naming": "short", "layout": "tight"})
        self.assertEqual(bundle(MODULES, "a"), bundle(MODULES, "a", passes=PASSES, naming="short", layout="tight"))
        for options in ({"passes": ()}, {"naming": "plain"}, {"naming": "kept"}, {"layout": "lines"}):
            self.assertNotEqual(bundle(MODULES, "a"), bundle(MODULES, "a", **options))

    def test_in_the_order_given(self):
        text = "let x = 1; fun f() { if 1 < 2 { throw 1; } x; } if 1 == 2 { f(); } tell 2;"
        self.assertEqual(text_of(text, passes=()), "let a=1;fun b(){if(1<2){throw 1;}(a);}if(1==2){((b)());}tell 2;")
        self.assertEqual(text_of(text, passes=["fold"]), "let a=1;fun b(){{throw 1;}(a);}{}tell 2;")
        self.assertEqual(text_of(text, passes=["dead", "fold"]), "let a=1;fun b(){{throw 1;}(a);}{}tell 2;")
        self.assertEqual(text_of(text, passes=["fold", "dead"]), "let a=1;fun b(){{throw 1;}}{}tell 2;")
        self.assertEqual(text_of(text, passes=["shake"]), text_of(text, passes=()))
        self.assertEqual(text_of(text, passes=["shake", "fold"]), "let a=1;fun b(){{throw 1;}(a);}{}tell 2;")
        self.assertEqual(text_of(text, passes=["fold", "shake"]), "tell 2;")
        more = "let x = 1; fun f() { throw 1; x; } f();"
        self.assertEqual(text_of(more, passes=["dead", "shake"]), "fun a(){throw 1;}((a)());")
        self.assertEqual(text_of(more, passes=["shake", "dead"]), "let a=1;fun b(){throw 1;}((b)());")

    def test_several_times(self):
        text = "let x = 1; fun f() { throw 1; x; } f();"
        self.assertEqual(text_of(text, passes=["shake", "dead", "shake"]), "fun a(){throw 1;}((a)());")
        self.assertEqual(text_of(text, passes=["fold"] * 3), text_of(text, passes=()))
        self.assertEqual(text_of(text, passes=("shake", "shake", "dead", "dead", "fold", "shake")), "fun a(){throw 1;}((a)());")

    def test_the_parts_alone(self):
        modules = {"a": 'import {g} from "b"; if g(1) < 2 { tell ask(1 + 2); return1(); } fun return1() { return 1; 2; } let z = 1;', "b": B + " export {f as g};"}
        linked = link(modules, "a")
        for passes, after in (((), linked), (("fold",), fold(linked)), (("dead", "shake"), shake(dead(linked))), (PASSES, shake(dead(fold(linked))))):
            for naming in ("plain", "kept", "short"):
                for layout in ("tight", "lines"):
                    self.assertEqual(bundle(modules, "a", passes=passes, naming=naming, layout=layout),
                                     print_linked(after, names_for(after, naming), layout))

    def test_arguments_are_not_modified(self):
        modules, passes = dict(MODULES), ["fold", "shake"]
        bundle(modules, "a", passes=passes)[1].clear()
        self.assertEqual((modules, passes), (MODULES, ["fold", "shake"]))
        self.assertEqual(len(bundle(modules, "a")[1]), 3)


class RefusedTest(unittest.TestCase):
    def refused(self, modules, **options):
        return refusal(lambda: bundle(modules, "a", **options))

    def test_what_linking_raises_comes_first(self):
        wrong = {"passes": ["no"], "naming": "no", "layout": "no"}
        for modules, expected in (
            ({}, ("NoModule", "a")), ({"a": 'import "b";'}, ("NoModule", "b")), ({"a": "tell ;"}, ("Malformed", "a", 5)), ({"a": " " * 20001}, ("Oversized", "text")),
            ({"a": "{" * 41}, ("Oversized", "nesting")), ({"a": "{" * 12 + "}" * 12 + "{" * 13 + "}" * 13}, ("Oversized", "depth")), ({"a": "tell x;"}, ("Unknown", "a", "x")),
            ({"a": "let x = 1; let x = 2;"}, ("Clashing", "a", "x")), ({"a": "fun f() {} f = 1;"}, ("Fixed", "a", "f")),
            ({"a": 'import * as s from "b"; tell s;', "b": ""}, ("Misused", "a", "s")), ({"a": 'import {x} from "b";', "b": "let x = 1;"}, ("NoExport", "b", "x")),
            ({f"m{at}": f'import "m{at + 1}";' for at in range(41)} | {"a": 'import "m0";', "m41": ""}, ("Oversized", "modules")),
        ):
            for options in (wrong, {}):
                self.assertEqual(self.refused(modules, **options), expected)
            self.assertEqual(refusal(run, modules, "a"), expected)

    def test_the_order_of_bad_options(self):
        passes, naming, layout = {"passes": ["fold", "no"]}, {"naming": "no"}, {"layout": "no"}
        for options, expected in (
            ({**passes, **naming, **layout}, "passes"), ({**passes, **naming}, "passes"), ({**passes, **layout}, "passes"), (passes, "passes"),
            ({**naming, **layout}, "naming"), (naming, "naming"), (layout, "layout"),
        ):
            self.assertEqual(self.refused(MODULES, **options), ("BadOption", expected), options)
            self.assertEqual(self.refused({"a": ""}, **options), ("BadOption", expected), options)

    def test_each_option(self):
        for name in ("", "Fold", "folds", "link", "short", "tight", "fold ", None, 1):
            for passes in ((name,), [*PASSES, name], [name, "fold"]):
                self.assertEqual(self.refused(MODULES, passes=passes), ("BadOption", "passes"))
        for naming in ("", "Plain", "tight", "shorts", None):
            self.assertEqual(self.refused(MODULES, naming=naming), ("BadOption", "naming"))
        for layout in ("", "Lines", "short", "line", None):
            self.assertEqual(self.refused(MODULES, layout=layout), ("BadOption", "layout"))


class OriginTest(unittest.TestCase):
    def test_places(self):
        places = [(0, "b", 18), (9, "b", 29), (22, "a", 23)]
        for index, module, at in places:
            self.assertEqual(origin(places, index), (module, at))

    def test_other_indexes(self):
        places = [(0, "b", 18), (9, "b", 29), (22, "a", 23)]
        for at in (1, 8, 10, 18, 21, 23, 29, 100, -1, -22, -9, 10 ** 30):
            self.assertIsNone(origin(places, at))
        for at in (0, 1, -1):
            self.assertIsNone(origin([], at))

    def test_index_zero_of_a_place(self):
        self.assertEqual(origin([(5, "a", 0)], 5), ("a", 0))
        self.assertIsNone(origin([(5, "a", 0)], 0))


class SizesTest(unittest.TestCase):
    def modules(self, last):
        """Modules whose bundle has 19992 characters and a last statement."""
        return {"a": 'import "b";' + "tell 1;" * 1000 + last, "b": "tell 1;" * 1856}

    def test_a_bundle_of_20000_characters(self):
        modules = self.modules("tell 10;")
        text, places = bundle(modules, "a")
        self.assertEqual(text, "tell 1;" * 2856 + "tell 10;")
        self.assertEqual(len(text), 20000)
        self.assertEqual(places[1855:1857], [(7 * 1855, "b", 7 * 1855), (7 * 1856, "a", 11)])
        self.assertEqual(mapped(modules, "a"), run(modules, "a"))

    def test_longer_bundles_are_made_too(self):
        modules = self.modules("tell 100;")
        text, places = bundle(modules, "a")
        self.assertEqual(text, "tell 1;" * 2856 + "tell 100;")
        self.assertEqual(len(text), 20001)
        self.assertEqual((len(places), places[-1]), (2857, (19992, "a", 7011)))
        self.assertEqual(refusal(parse, text, "m"), ("Oversized", "text"))
        self.assertEqual(len(run(modules, "a")[0]), 2857)

    def test_much_longer_bundles(self):
        modules = {f"m{at}": f'import "m{at + 1}"; fun f{at}(x) {{ tell x; }}' + "{let x=1;tell ask(x);}" * 900 for at in range(3)}
        modules["m3"] = "let z=1;"
        for naming, layout in (("short", "tight"), ("kept", "lines"), ("plain", "tight")):
            text, places = bundle(modules, "m0", naming=naming, layout=layout)
            self.assertGreater(len(text), 50000)
            self.assertEqual(len(places), 3 * 900 * 4)
            index, module, at = places[-1]
            self.assertEqual((text[index:index + 3], module, modules[module][at:at + 3]), ("ask", "m0", "ask"))


if __name__ == "__main__":
    unittest.main()
