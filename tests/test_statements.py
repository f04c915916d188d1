"""Points 2.1 and 2.3: statements."""

import unittest

from helper import malformed, parsed

A, B = ("var", "a"), ("var", "b")


class FormsTest(unittest.TestCase):
    def check(self, text, *items):
        self.assertEqual(parsed(text), list(items), text)

    def refused(self, text, at):
        self.assertEqual(parsed(text), malformed(at), text)

    def test_no_statements(self):
        self.check("")
        self.check(" # nothing")

    def test_let(self):
        self.check("let a = b;", ("let", "a", B, 0))
        self.check("  let a=b;", ("let", "a", B, 2))
        self.check("let a = b == a;", ("let", "a", ("eq", B, A), 0))

    def test_let_that_is_refused(self):
        for text, at in (("let a;", 5), ("let a = ;", 8), ("let = a;", 4), ("let 1 = a;", 4), ("let a == b;", 6),
                         ("let let = a;", 4), ("let a.b = a;", 5), ("let a = b", 9), ("let a, b = 1;", 5),
                         ("let", 3), ("let a = b = a;", 10), ('let "a" = b;', 4)):
            self.refused(text, at)

    def test_functions(self):
        self.check("fun f(){}", ("fun", "f", (), (), 0))
        self.check(" fun f ( a , b ) { a ; }", ("fun", "f", ("a", "b"), (("do", A, 19),), 1))
        self.check("fun f(){fun g(){}}", ("fun", "f", (), (("fun", "g", (), (), 8),), 0))

    def test_functions_that_are_refused(self):
        for text, at in (("fun f{}", 5), ("fun f(a,){}", 8), ("fun f(1){}", 6), ("fun f(a)", 8), ("fun f(){", 8),
                         ("fun f() a;", 8), ("fun", 3), ("fun f", 5), ("fun let(){}", 4), ("fun f(a b){}", 8),
                         ("fun 1", 4), ("fun f()();", 7)):
            self.refused(text, at)

    def test_a_declaration_needs_no_semicolon_and_is_not_called(self):
        self.check("fun f(){}a;", ("fun", "f", (), (), 0), ("do", A, 9))
        self.refused("fun f(){};", 9)
        self.check("fun f(){}(a);", ("fun", "f", (), (), 0), ("do", A, 9))

    def test_fun_as_an_expression_at_the_start(self):
        self.check("fun(){};", ("do", ("lambda", (), ()), 0))
        self.check("fun(a){}(b);", ("do", ("call", ("lambda", ("a",), ()), (B,)), 0))
        self.check(" fun(){}+a;", ("do", ("add", ("lambda", (), ()), A), 1))
        self.refused("fun(){}", 7)
        self.refused("fun(){} a;", 8)

    def test_fun_as_a_declaration_only_at_the_start(self):
        self.refused("a = fun f(){};", 8)
        self.refused("tell fun f(){};", 9)
        self.refused("(fun f(){});", 5)

    def test_assignments(self):
        self.check("a = b;", ("set", "a", B, 0))
        self.check(" a=a==b;", ("set", "a", ("eq", A, B), 1))

    def test_assignments_that_are_refused(self):
        for text, at in (("a = ;", 4), ("a = b", 5), ("a = b = a;", 6), ("a.b = a;", 4), ("(a) = b;", 4),
                         ("1 = a;", 2), ("f() = a;", 4), ("a + b = a;", 6), ("true = a;", 5), ("a = let;", 4),
                         ("a =", 3)):
            self.refused(text, at)

    def test_expressions(self):
        self.check("a;", ("do", A, 0))
        self.check(" (a);", ("do", A, 1))
        self.check("a == b;", ("do", ("eq", A, B), 0))
        self.check("a.b;", ("do", ("member", "a", "b"), 0))
        self.check("a(b);", ("do", ("call", A, (B,)), 0))
        self.check(" ask(a);", ("do", ("ask", A, 1), 1))
        self.check("not a;", ("do", ("not", A), 0))
        self.check("1;", ("do", ("int", 1), 0))
        self.check("true;false;none;", ("do", ("bool", True), 0), ("do", ("bool", False), 5),
                   ("do", ("none",), 11))

    def test_expressions_that_are_refused(self):
        for text, at in (("a", 1), ("a b;", 2), (";", 0), ("a;;", 2), ("a,b;", 1), ("+a;", 0), ('"a";', 0), ("= a;", 0)):
            self.refused(text, at)

    def test_words_with_an_expression(self):
        for word in ("tell", "throw"):
            self.check(f" {word} a or b;", (word, ("or", A, B), 1))
            self.check(f"{word}(a);", (word, A, 0))
            self.refused(f"{word};", 5 - (word == "tell"))
            self.refused(f"{word} a", len(word) + 2)
            self.refused(f"{word} a, b;", len(word) + 2)
            self.refused(f"{word} a = b;", len(word) + 3)

    def test_if(self):
        self.check("if a {}", ("if", A, (), (), 0))
        self.check("if a {} else {}", ("if", A, (), (), 0))
        self.check(" if a {b;}", ("if", A, (("do", B, 7),), (), 1))
        self.check("if a {b;} else {a;}", ("if", A, (("do", B, 6),), (("do", A, 16),), 0))
        self.check("if(a){}b;", ("if", A, (), (), 0), ("do", B, 7))
        self.check("if a < b {}", ("if", ("lt", A, B), (), (), 0))

    def test_if_that_is_refused(self):
        for text, at in (("if {}", 3), ("if a b;", 5), ("if a {} else b;", 13), ("if a {} else if b {}", 13),
                         ("if a {} else {} else {}", 16), ("if a", 4), ("if a {", 6), ("if a {} else", 12),
                         ("else {}", 0), ("if a; {}", 4), ("if a {}; else {}", 7), ("if a {} b; else {}", 11)):
            self.refused(text, at)

    def test_nested_choices(self):
        self.check("if a {if b {} else {a;}}",
                   ("if", A, (("if", B, (), (("do", A, 20),), 6),), (), 0))
        self.check("if a {if b {}} else {a;}",
                   ("if", A, (("if", B, (), (), 6),), (("do", A, 21),), 0))

    def test_repeat(self):
        self.check("repeat 3 {}", ("repeat", ("int", 3), (), 0))
        self.check(" repeat a {tell b; a;}", ("repeat", A, (("tell", B, 11), ("do", A, 19)), 1))
        for text, at in (("repeat {}", 7), ("repeat a b;", 9), ("repeat a", 8), ("repeat a {", 10), ("repeat a;", 8)):
            self.refused(text, at)

    def test_try(self):
        self.check("try {} catch a {}", ("try", (), "a", (), 0))
        self.check(" try {a;} catch b {b;a;}",
                   ("try", (("do", A, 6),), "b", (("do", B, 19), ("do", A, 21)), 1))
        for text, at in (("try {}", 6), ("try {} a;", 7), ("try {} catch {}", 13), ("try {} catch (a) {}", 13),
                         ("try {} catch a", 14), ("try {} catch a b;", 15), ("try a;", 4), ("try", 3),
                         ("catch a {}", 0), ("try {} catch let {}", 13)):
            self.refused(text, at)

    def test_blocks(self):
        self.check("{}", ("block", (), 0))
        self.check(" {a;{}b;}", ("block", (("do", A, 2), ("block", (), 4), ("do", B, 6)), 1))
        self.check("{}{}", ("block", (), 0), ("block", (), 2))
        for text, at in (("{", 1), ("{a;", 3), ("{a}", 2), ("}", 0), ("{}}", 2), ("{};", 2), ("{{}", 3)):
            self.refused(text, at)

    def test_every_form_inside_a_block(self):
        forms = (
            ("let a = b;", lambda at: ("let", "a", B, at)),
            ("fun a(b) {}", lambda at: ("fun", "a", ("b",), (), at)),
            ("fun(b) {};", lambda at: ("do", ("lambda", ("b",), ()), at)),
            ("a = b;", lambda at: ("set", "a", B, at)),
            ("tell a;", lambda at: ("tell", A, at)),
            ("throw a;", lambda at: ("throw", A, at)),
            ("if a {}", lambda at: ("if", A, (), (), at)),
            ("repeat a {}", lambda at: ("repeat", A, (), at)),
            ("try {} catch a {}", lambda at: ("try", (), "a", (), at)),
            ("{}", lambda at: ("block", (), at)),
            ("a;", lambda at: ("do", A, at)),
        )
        for text, tree in forms:
            body = " " + text + text
            block = (tree(1), tree(1 + len(text)))
            for before, after, wrap in (
                ("{", "}", lambda rows: ("block", rows, 0)),
                ("if a {", "}", lambda rows: ("if", A, rows, (), 0)),
                ("if a {} else {", "}", lambda rows: ("if", A, (), rows, 0)),
                ("repeat a {", "}", lambda rows: ("repeat", A, rows, 0)),
                ("try {", "} catch a {}", lambda rows: ("try", rows, "a", (), 0)),
                ("try {} catch a {", "}", lambda rows: ("try", (), "a", rows, 0)),
                ("fun f() {", "}", lambda rows: ("fun", "f", (), rows, 0)),
                ("a = fun() {", "};", lambda rows: ("set", "a", ("lambda", (), rows), 0)),
            ):
                at = len(before) + 1
                rows = (tree(at), tree(at + len(text)))
                self.check(before + body + after, wrap(rows))
            self.assertEqual(parsed(body), list(block))


class ReturnTest(unittest.TestCase):
    AROUND = (
        ("", ""),
        ("{", "}"),
        ("if a {", "}"),
        ("if a {} else {", "}"),
        ("repeat a {", "}"),
        ("try {", "} catch a {}"),
        ("try {} catch a {", "}"),
        ("{ repeat a { if a {", "}}}"),
    )

    def test_inside_a_function(self):
        for before, after in self.AROUND:
            for head, tail in (("fun f() {", "}"), ("a = fun() {", "};"), ("fun(){", "}(a);"),
                               ("export fun f() {", "}"), ("export let a = fun() {", "};"),
                               ("if fun(){", "} {}"), ("f(1, fun() {", "});")):
                found = parsed(head + before + "return a;" + after + tail)
                self.assertIsInstance(found, list, head + before)

    def test_the_tree(self):
        self.assertEqual(parsed("fun f() { return a; }"), [("fun", "f", (), (("return", A, 10),), 0)])
        self.assertEqual(parsed("fun f(){return(a);}"), [("fun", "f", (), (("return", A, 8),), 0)])

    def test_outside_of_functions(self):
        for before, after in self.AROUND:
            at = len(before)
            self.assertEqual(parsed(before + "return a;" + after), malformed(at), before)
            self.assertEqual(parsed(before + " return;" + after), malformed(at + 1), before)

    def test_behind_a_function(self):
        for before in ("fun f() { return a; }", "a = fun() { return a; };", "fun f() {} ", "fun(){}(a);",
                       "fun f() { fun g() { return a; } }", "export fun f() { return a; } ",
                       "if fun() { return a; } {", "{ fun f() { return a; } ", "repeat fun(){} {"):
            self.assertEqual(parsed(before + "return a;"), malformed(len(before)), before)

    def test_behind_a_function_inside_a_function(self):
        for inner in ("fun g() { return b; }", "a = fun() { return b; };", "g(fun(){return a;});"):
            found = parsed("fun f() {" + inner + "return a;}")
            self.assertEqual(found[0][3][1], ("return", A, 9 + len(inner)))

    def test_in_the_parameters_or_as_an_expression(self):
        for text, at in (("fun f(return) {}", 6), ("fun f() { tell return a; }", 15), ("fun f() { return; }", 16),
                         ("fun f() { return a }", 19), ("fun f() { a = return; }", 14),
                         ("fun f() { return return a; }", 17), ("fun f() { return", 16)):
            self.assertEqual(parsed(text), malformed(at), text)


if __name__ == "__main__":
    unittest.main()
