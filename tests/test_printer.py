"""Points 8.2 to 8.4: printing, places, and reading what has been printed."""

import random
import unittest

from fascicle.errors import Refused
from fascicle.fold import fold
from fascicle.lexer import tokens
from fascicle.link import Linked, link
from fascicle.names import names_for
from fascicle.parser import parse
from fascicle.printer import print_linked

import slow
from helper import refusal
from maker import Maker

ONE, TWO, NONE, TRUE, FALSE = ("int", 1), ("int", 2), ("none",), ("bool", True), ("bool", False)
NAMES = {0: "a", 1: "b", 2: "c", 3: "d", 4: "long_name", 5: "e1", 6: "f_"}
A, B, C, LONG = ("var", 0), ("var", 1), ("var", 2), ("var", 4)
SUM = ("add", A, B)


def printed(*statements, layout="tight", exports=()):
    """The text of some statements at the top."""
    text, _ = print_linked(Linked([("m", statement) for statement in statements], exports, []), NAMES, layout)
    return text


def expression(e):
    """The text of an expression, as it stands in an assignment."""
    text = printed(("set", 0, e, 0))
    assert text[:2] == "a=" and text[-1] == ";"
    return text[2:-1]


def do(e=ONE):
    return ("do", e, 0)


class ExpressionsTest(unittest.TestCase):
    def assert_expressions(self, rows):
        for e, expected in rows:
            self.assertEqual(expression(e), expected)

    def test_without_operands(self):
        self.assert_expressions((
            (("int", 0), "0"), (("int", 65535), "65535"), (TRUE, "true"), (FALSE, "false"), (NONE, "none"), (A, "a"), (LONG, "long_name"),
        ))

    def test_operations(self):
        self.assert_expressions((
            (("add", A, B), "(a+b)"), (("sub", A, ONE), "(a-1)"), (("mul", ONE, TWO), "(1*2)"), (("lt", A, B), "(a<b)"), (("eq", A, NONE), "(a==none)"),
            (("and", A, B), "(a and b)"), (("or", TRUE, ONE), "(true or 1)"), (("not", A), "(not a)"),
        ))

    def test_operations_in_operations(self):
        self.assert_expressions((
            (("add", ("add", A, B), C), "((a+b)+c)"), (("add", A, ("mul", B, C)), "(a+(b*c))"), (("lt", ("sub", A, B), ("eq", B, C)), "((a-b)<(b==c))"),
            (("and", ("or", A, B), C), "((a or b)and c)"), (("and", A, ("or", B, C)), "(a and(b or c))"), (("or", ("not", A), ("not", B)), "((not a)or(not b))"),
            (("not", ("not", A)), "(not(not a))"), (("not", ("and", A, B)), "(not(a and b))"), (("not", ("lt", ONE, TWO)), "(not(1<2))"),
        ))

    def test_calls(self):
        self.assert_expressions((
            (("call", A, ()), "(a)()"), (("call", A, (B,)), "(a)(b)"), (("call", A, (ONE, B, NONE)), "(a)(1,b,none)"), (("call", ONE, (TRUE,)), "(1)(true)"),
            (("call", ("call", A, (B,)), (C,)), "((a)(b))(c)"), (("call", SUM, (SUM,)), "((a+b))((a+b))"), (("call", ("not", A), ()), "((not a))()"),
            (("call", ("ask", A, 0), (("call", B, ()),)), "(ask(a))((b)())"), (("call", ("lambda", (0,), ()), (ONE,)), "(fun(a){})(1)"),
            (("add", ("call", A, ()), ("call", B, ())), "((a)()+(b)())"), (("not", ("call", A, ())), "(not(a)())"),
            (("and", ("call", A, ()), ("call", B, ())), "((a)()and(b)())"),
        ))

    def test_asks(self):
        self.assert_expressions((
            (("ask", A, 0), "ask(a)"), (("ask", ONE, 0), "ask(1)"), (("ask", SUM, 0), "ask((a+b))"), (("ask", ("ask", A, 0), 0), "ask(ask(a))"),
            (("not", ("ask", A, 0)), "(not ask(a))"), (("and", ("ask", A, 0), ("ask", B, 0)), "(ask(a)and ask(b))"), (("add", ONE, ("ask", A, 0)), "(1+ask(a))"),
        ))

    def test_lambdas(self):
        self.assert_expressions((
            (("lambda", (), ()), "fun(){}"), (("lambda", (1,), ()), "fun(b){}"), (("lambda", (2, 0, 1), (("return", A, 0),)), "fun(c,a,b){return a;}"),
            (("lambda", (), (do(), ("tell", A, 0))), "fun(){(1);tell a;}"), (("and", ("lambda", (), ()), ("lambda", (), ())), "(fun(){}and fun(){})"),
            (("not", ("lambda", (), ())), "(not fun(){})"), (("call", A, (("lambda", (), (("throw", ONE, 0),)),)), "(a)(fun(){throw 1;})"),
        ))


class StatementsTest(unittest.TestCase):
    def assert_statements(self, rows):
        """Check texts in both layouts; a line's end stands only in the second one."""
        for statement, expected in rows:
            self.assertEqual(printed(statement), expected.replace("\n", ""))
            self.assertEqual(printed(statement, layout="lines"), expected)

    def test_with_a_semicolon(self):
        self.assert_statements((
            (("let", 0, ONE, 0), "let a=1;\n"), (("let", 4, SUM, 0), "let long_name=(a+b);\n"), (("set", 0, A, 0), "a=a;\n"), (("set", 6, NONE, 0), "f_=none;\n"),
            (("tell", A, 0), "tell a;\n"), (("tell", ONE, 0), "tell 1;\n"), (("tell", SUM, 0), "tell(a+b);\n"), (("tell", ("call", A, (TWO,)), 0), "tell(a)(2);\n"),
            (("tell", ("ask", A, 0), 0), "tell ask(a);\n"), (("throw", A, 0), "throw a;\n"), (("throw", ("not", A), 0), "throw(not a);\n"),
            (("return", A, 0), "return a;\n"), (("return", NONE, 0), "return none;\n"), (("return", SUM, 0), "return(a+b);\n"),
            (("return", ("lambda", (), ()), 0), "return fun(){\n};\n"),
        ))

    def test_expression_statements(self):
        self.assert_statements((
            (do(ONE), "(1);\n"), (do(A), "(a);\n"), (do(SUM), "((a+b));\n"), (do(("not", A)), "((not a));\n"), (do(("call", A, ())), "((a)());\n"),
            (do(("ask", A, 0)), "(ask(a));\n"), (do(("lambda", (), ())), "(fun(){\n});\n"), (do(("call", SUM, (SUM,))), "(((a+b))((a+b)));\n"),
        ))

    def test_functions(self):
        self.assert_statements((
            (("fun", 0, (), (), 0), "fun a(){\n}\n"), (("fun", 4, (0,), (), 0), "fun long_name(a){\n}\n"),
            (("fun", 0, (1, 2, 5), (("return", B, 0), do()), 0), "fun a(b,c,e1){\nreturn b;\n(1);\n}\n"),
            (("fun", 0, (), (("fun", 1, (), (), 0), ("fun", 2, (), (do(),), 0)), 0), "fun a(){\nfun b(){\n}\nfun c(){\n(1);\n}\n}\n"),
        ))

    def test_ifs(self):
        self.assert_statements((
            (("if", A, (), (), 0), "if a{\n}\n"), (("if", ("lt", A, B), (do(),), (), 0), "if(a<b){\n(1);\n}\n"),
            (("if", TRUE, (do(), do(A)), (do(B),), 0), "if true{\n(1);\n(a);\n}else{\n(b);\n}\n"), (("if", A, (), (do(),), 0), "if a{\n}else{\n(1);\n}\n"),
            (("if", A, (), (("if", B, (), (), 0),), 0), "if a{\n}else{\nif b{\n}\n}\n"), (("if", A, (), (("block", (), 0),), 0), "if a{\n}else{\n{\n}\n}\n"),
            (("if", ("lambda", (), ()), (), (), 0), "if fun(){\n}{\n}\n"), (("if", ("call", A, ()), (), (), 0), "if(a)(){\n}\n"),
        ))

    def test_repeats(self):
        self.assert_statements((
            (("repeat", ("int", 7), (), 0), "repeat 7{\n}\n"), (("repeat", A, (do(), do(A)), 0), "repeat a{\n(1);\n(a);\n}\n"),
            (("repeat", SUM, (do(),), 0), "repeat(a+b){\n(1);\n}\n"), (("repeat", ("ask", ONE, 0), (), 0), "repeat ask(1){\n}\n"),
        ))

    def test_tries(self):
        self.assert_statements((
            (("try", (), 0, (), 0), "try{\n}catch a{\n}\n"), (("try", (do(), do(A)), 4, (do(B), do(C)), 0), "try{\n(1);\n(a);\n}catch long_name{\n(b);\n(c);\n}\n"),
            (("try", (("try", (), 0, (), 0),), 1, (("try", (), 2, (), 0),), 0), "try{\ntry{\n}catch a{\n}\n}catch b{\ntry{\n}catch c{\n}\n}\n"),
        ))

    def test_blocks(self):
        self.assert_statements((
            (("block", (), 0), "{\n}\n"), (("block", (do(), ("let", 0, ONE, 0)), 0), "{\n(1);\nlet a=1;\n}\n"),
            (("block", (("block", (), 0), ("block", (("block", (), 0),), 0)), 0), "{\n{\n}\n{\n{\n}\n}\n}\n"),
        ))

    def test_lambdas_with_blocks(self):
        self.assert_statements((
            (("let", 0, ("lambda", (1,), (("if", B, (("return", ONE, 0),), (), 0), do())), 0), "let a=fun(b){\nif b{\nreturn 1;\n}\n(1);\n};\n"),
            (("tell", ("call", ("lambda", (), (("return", ("lambda", (), ()), 0),)), (("lambda", (), ()), ONE)), 0),
             "tell(fun(){\nreturn fun(){\n};\n})(fun(){\n},1);\n"),
        ))

    def test_several_statements(self):
        statements = (("let", 0, ONE, 0), ("block", (), 0), ("fun", 1, (), (), 0), ("tell", A, 0), do(), ("set", 0, ONE, 0))
        self.assertEqual(printed(*statements), "let a=1;{}fun b(){}tell a;(1);a=1;")
        self.assertEqual(printed(*statements, layout="lines"), "let a=1;\n{\n}\nfun b(){\n}\ntell a;\n(1);\na=1;\n")

    def test_nothing(self):
        for layout in ("tight", "lines"):
            self.assertEqual(print_linked(Linked([], [], []), {}, layout), ("", []))


class ExportsTest(unittest.TestCase):
    def test_exports(self):
        for exports, expected in (([("x", 0)], "export{a as x};"), ([("a", 0)], "export{a as a};"), ([("x", 4), ("y", 0), ("z_1", 4)], "export{long_name as x,a as y,long_name as z_1};")):
            self.assertEqual(printed(exports=exports), expected)
            self.assertEqual(printed(exports=exports, layout="lines"), expected + "\n")
            self.assertEqual(printed(("tell", A, 0), exports=exports), "tell a;" + expected)
            self.assertEqual(printed(("tell", A, 0), exports=exports, layout="lines"), f"tell a;\n{expected}\n")
            self.assertEqual(printed(("block", (), 0), exports=exports), "{}" + expected)

    def test_no_exports(self):
        self.assertEqual(printed(("tell", A, 0)), "tell a;")
        self.assertEqual(printed(("tell", A, 0), layout="lines"), "tell a;\n")


class PlacesTest(unittest.TestCase):
    def assert_places(self, pairs, expected, layout="tight", exports=()):
        """Check the text and, behind each mark in what is expected, the place that stands there."""
        text, places = print_linked(Linked(pairs, exports, []), NAMES, layout)
        clean, found = "", []
        for row in expected:
            if isinstance(row, tuple):
                found.append((len(clean), *row))
            else:
                clean += row
        self.assertEqual(text, clean)
        self.assertEqual(places, found)

    def test_statements(self):
        self.assert_places([("m", ("let", 0, ONE, 17)), ("n", ("tell", A, 5)), ("m", do()), ("m", ("set", 0, ONE, 30)), ("n", ("throw", ONE, 40))],
                           [("m", 17), "let a=1;", ("n", 5), "tell a;", ("m", 0), "(1);", ("m", 30), "a=1;", ("n", 40), "throw 1;"])

    def test_asks(self):
        ask = ("ask", ("add", ("ask", A, 21), ("not", ("ask", ONE, 30))), 14)
        self.assert_places([("m", ("tell", ask, 9))], [("m", 9), "tell ", ("m", 14), "ask((", ("m", 21), "ask(a)+(not ", ("m", 30), "ask(1))));"])
        self.assert_places([("m", ("do", ("ask", A, 3), 2))], [("m", 2), "(", ("m", 3), "ask(a));"])
        self.assert_places([("m", ("do", ("call", ("ask", A, 5), (("ask", B, 7), ("ask", C, 6))), 2))],
                           [("m", 2), "((", ("m", 5), "ask(a))(", ("m", 7), "ask(b),", ("m", 6), "ask(c)));"])

    def test_inside_blocks(self):
        pairs = [("m", ("if", ("ask", A, 1), (("tell", A, 2), do(("ask", ONE, 3))), (("set", 0, ("ask", TWO, 5), 4),), 0)),
                 ("n", ("try", (("repeat", ("ask", A, 7), (("return", A, 8),), 6),), 1, (("block", (("throw", A, 10),), 9),), 5))]
        self.assert_places(pairs, [
            ("m", 0), "if ", ("m", 1), "ask(a){", ("m", 2), "tell a;", ("m", 0), "(", ("m", 3), "ask(1));}else{", ("m", 4), "a=", ("m", 5), "ask(2);}",
            ("n", 5), "try{", ("n", 6), "repeat ", ("n", 7), "ask(a){", ("n", 8), "return a;}}catch b{", ("n", 9), "{", ("n", 10), "throw a;}}"])
        self.assert_places(pairs, [
            ("m", 0), "if ", ("m", 1), "ask(a){\n", ("m", 2), "tell a;\n", ("m", 0), "(", ("m", 3), "ask(1));\n}else{\n", ("m", 4), "a=", ("m", 5), "ask(2);\n}\n",
            ("n", 5), "try{\n", ("n", 6), "repeat ", ("n", 7), "ask(a){\n", ("n", 8), "return a;\n}\n}catch b{\n", ("n", 9), "{\n", ("n", 10), "throw a;\n}\n}\n"], "lines")

    def test_inside_functions_and_lambdas(self):
        function = ("fun", 0, (1,), (("return", ("ask", B, 4), 3), ("let", 2, ("lambda", (3,), (("tell", ("ask", NONE, 9), 8),)), 5)), 2)
        call = ("do", ("call", ("lambda", (), (("throw", A, 12),)), (("lambda", (), (("return", ONE, 13),)), ("ask", A, 14))), 11)
        self.assert_places([("m", function), ("n", call)], [
            ("m", 2), "fun a(b){", ("m", 3), "return ", ("m", 4), "ask(b);", ("m", 5), "let c=fun(d){", ("m", 8), "tell ", ("m", 9), "ask(none);};}",
            ("n", 11), "((fun(){", ("n", 12), "throw a;})(fun(){", ("n", 13), "return 1;},", ("n", 14), "ask(a)));"])
        self.assert_places([("m", function)], [
            ("m", 2), "fun a(b){\n", ("m", 3), "return ", ("m", 4), "ask(b);\n", ("m", 5), "let c=fun(d){\n", ("m", 8), "tell ", ("m", 9), "ask(none);\n};\n}\n"], "lines")

    def test_exports_have_no_places(self):
        self.assert_places([("m", ("let", 0, ONE, 7))], [("m", 7), "let a=1;export{a as x};"], exports=[("x", 0)])
        self.assert_places([], ["export{a as x};\n"], "lines", exports=[("x", 0)])

    def test_from_texts(self):
        modules = {"a": 'import {f} from "b";\ntell f(ask(3));', "b": "export let y = 1; export fun f(x) { return x + ask(y); }"}
        linked = link(modules, "a")
        text, places = print_linked(linked, names_for(linked, "kept"), "lines")
        self.assertEqual(text, "let y=1;\nfun f(x){\nreturn(x+ask(y));\n}\ntell(f)(ask(3));\n")
        self.assertEqual(places, [(0, "b", 7), (9, "b", 25), (19, "b", 36), (28, "b", 47), (39, "a", 21), (47, "a", 28)])


class OptionTest(unittest.TestCase):
    def test_bad_options(self):
        linked = Linked([("m", ("tell", A, 0))], [], [])
        for layout in ("", "Tight", "line", "lines ", "short", "tightlines", None, 0):
            self.assertEqual(refusal(print_linked, linked, NAMES, layout), ("BadOption", "layout"), layout)

    def test_arguments_are_not_modified(self):
        linked, names = Linked([("m", ("tell", A, 0))], [("x", 0)], [("let", "x", "m")]), dict(NAMES)
        print_linked(linked, names, "tight")[1].append(1)
        self.assertEqual(print_linked(linked, names, "tight"), ("tell a;export{a as x};", [(0, "m", 0)]))
        self.assertEqual((linked.statements(), linked.exports(), linked.variables()), ([("m", ("tell", A, 0))], [("x", 0)], [("let", "x", "m")]))
        self.assertEqual(names, NAMES)


def lambda_of(*statements):
    return ("lambda", (), statements)


# What makes an expression one level deeper, and what makes it two levels deeper.
ONE_LEVEL = [lambda e, kind=kind: (kind, e, A) for kind in ("add", "sub", "mul", "lt", "eq", "and", "or")] + [
    lambda e, kind=kind: (kind, A, e) for kind in ("add", "sub", "mul", "lt", "eq", "and", "or")] + [
    lambda e: ("not", e), lambda e: ("ask", e, 0), lambda e: ("call", e, ()), lambda e: ("call", e, (A, B)), lambda e: ("call", A, (B, e))]
TWO_LEVELS = [lambda e: lambda_of(do(), do(e)), lambda e: lambda_of(("return", e, 0)), lambda e: lambda_of(("let", 0, e, 0)),
              lambda e: lambda_of(("if", e, (), (), 0)), lambda e: lambda_of(("repeat", e, (("block", (), 0),), 0))]
# What makes a statement one level deeper.
AROUND = [lambda s: ("block", (s, do()), 0), lambda s: ("if", A, (s,), (do(),), 0), lambda s: ("if", A, (), (s,), 0), lambda s: ("repeat", A, (s,), 0),
          lambda s: ("try", (s,), 1, (), 0), lambda s: ("try", (), 1, (s,), 0), lambda s: ("fun", 1, (2,), (s,), 0)]


class Counting(dict):
    """Gives each key that is looked up a number, in the order in which they are looked up first."""

    def __missing__(self, key):
        self[key] = len(self)
        return self[key]


class DeepTest(unittest.TestCase):
    """What has the greatest depth can be read again, whatever parentheses stand in it."""

    def assert_same(self, statement):
        for layout in ("tight", "lines"):
            text = printed(statement, layout=layout)
            (item,) = parse(text, "m")
            self.assertEqual(slow.without_indexes(item), slow.renamed(statement, NAMES))
            self.assertEqual(refusal(parse, "{" + text + "}", "m"), ("Oversized", "depth"))

    def test_expressions(self):
        makers = [(1, make) for make in ONE_LEVEL] + [(2, make) for make in TWO_LEVELS]
        for first in makers:
            for second in makers:
                e, levels = A, 1
                for more, make in [first, second] * 6:
                    if levels + more <= 11:
                        e, levels = make(e), levels + more
                self.assert_same(do(("not", e) if levels == 10 else e))

    def test_statements(self):
        for first in AROUND:
            for second in AROUND:
                statement = do()
                for make in [first, second] * 5:
                    statement = make(statement)
                self.assert_same(statement)


class MadeProgramsTest(unittest.TestCase):
    """Facts about what is printed of made programs."""

    def made(self):
        draw = random.Random(17)
        found = []
        while len(found) < 200:
            try:
                linked = link(Maker(draw).modules(draw.randrange(1, 5)), "a")
            except Refused:
                continue
            linked = draw.choice((linked, fold(linked)))
            naming = draw.choice(("plain", "kept", "short"))
            found.append((linked, names_for(linked, naming)))
        return found

    def test_reading_gives_the_same_trees(self):
        kinds = set()
        for linked, names in self.made():
            for layout in ("tight", "lines"):
                text, places = print_linked(linked, names, layout)
                if len(text) > 20000:
                    continue
                items = parse(text, "bundle")
                exports = linked.exports()
                if exports:
                    self.assertEqual(items.pop()[:2], ("export", tuple((names[number], name) for name, number in exports)))
                expected = [slow.renamed(statement, names) for _, statement in linked.statements()]
                self.assertEqual([slow.without_indexes(item) for item in items], expected)
                self.assertEqual([at for at, _, _ in places], slow.indexes(items))
                self.assertEqual([(module, at) for _, module, at in places],
                                 [(module, at) for module, statement in linked.statements() for at in slow.indexes([statement])])
                kinds |= slow.kinds(items)
        self.assertEqual(kinds, {"int", "bool", "none", "var", "ask", "lambda", "call", "not", "add", "sub", "mul", "lt", "eq", "and", "or", "let", "fun", "set",
                                 "do", "tell", "throw", "return", "if", "repeat", "try", "block"})

    def test_linking_gives_the_same_variables(self):
        for linked, names in self.made():
            text, _ = print_linked(linked, names, "lines")
            if len(text) <= 20000:
                again = link({"bundle": text}, "bundle")
                first, second = Counting(), Counting()
                self.assertEqual([slow.renamed(statement, first) for _, statement in linked.statements()],
                                 [slow.renamed(statement, second) for _, statement in again.statements()])
                self.assertEqual([(name, first[number]) for name, number in linked.exports()],
                                 [(name, second[number]) for name, number in again.exports()])
                kinds = [linked.variables()[number][0] for number in first]
                self.assertEqual(kinds, [again.variables()[number][0] for number in second])

    def test_spaces_and_newlines(self):
        for linked, names in self.made():
            tight, _ = print_linked(linked, names, "tight")
            lines, _ = print_linked(linked, names, "lines")
            self.assertNotIn("\n", tight)
            self.assertEqual(lines.replace("\n", ""), tight)
            self.assertNotRegex(tight, "[^A-Za-z0-9_] | [^A-Za-z0-9_]|^ | $")
            self.assertNotIn("\n\n", lines)
            self.assertNotRegex(lines, ";[^\n]")
            if len(tight) <= 20000:
                spelled = [str(value) for _, value, _ in tokens(tight, "m")]
                text = spelled[0] if spelled else ""
                for token in spelled[1:]:
                    text += (" " if (text[-1] + token[0]).replace("_", "a").isalnum() else "") + token
                self.assertEqual(text, tight)


if __name__ == "__main__":
    unittest.main()
