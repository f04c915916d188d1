"""Point 8.1: namings."""

import itertools
import random
import string
import unittest

from fascicle.errors import Refused
from fascicle.lexer import RESERVED, is_name
from fascicle.link import Linked, link
from fascicle.names import names_for, short_name
from fascicle.shake import shake

import slow
from helper import refusal
from maker import Maker

ONE = ("int", 1)
# All short names up to three letters, reserved or not, in their order.
ALL = ["".join(word) for length in (1, 2, 3) for word in itertools.product(string.ascii_lowercase, repeat=length)]
FREE = [word for word in ALL if word not in RESERVED]


def linked(text, **modules):
    return link({"m": text, **modules}, "m")


def named(text, naming="short", **modules):
    """The new names of all variables of a module, behind their own names, in the order of the numbers."""
    found = linked(text, **modules)
    names = names_for(found, naming)
    return " ".join(f"{name}:{names[number]}" for number, (_, name, _) in enumerate(found.variables()))


def kept(*names):
    """The new names of variables that have some names in turn."""
    found = Linked([], [], [("let", name, "m") for name in names])
    result = names_for(found, "kept")
    assert list(result) == list(range(len(names)))
    return list(result.values())


def do(*numbers):
    """A statement in which some variables occur."""
    return ("do", ("call", ONE, tuple(("var", number) for number in numbers)), 0)


def let(number, e=ONE):
    return ("let", number, e, 0)


def short(*statements):
    """The short names of the variables that some statements at the top declare, as one string, by their numbers."""
    pairs = [("m", statement) for statement in statements]
    names = names_for(Linked(pairs, [], [("let", "x", "m")] * 30), "short")
    return " ".join(f"{number}{names[number]}" for number in sorted(names))


class ShortNameTest(unittest.TestCase):
    def test_the_first_names(self):
        self.assertEqual([short_name(index) for index in range(len(ALL))], ALL)

    def test_the_edges(self):
        for index, expected in ((0, "a"), (25, "z"), (26, "aa"), (27, "ab"), (51, "az"), (52, "ba"), (701, "zz"), (702, "aaa"), (18277, "zzz"),
                                (18278, "aaaa"), (475253, "zzzz"), (475254, "aaaaa")):
            self.assertEqual(short_name(index), expected)

    def test_reserved_names(self):
        for index, expected in ((44, "as"), (239, "if"), (407, "or"), (1043, "and"), (1180, "ask")):
            self.assertEqual(short_name(index), expected)


class PlainTest(unittest.TestCase):
    def test_plain(self):
        self.assertEqual(named("let x = 1; fun v1(x) { try { let y = 1; } catch e {} } import \"b\";", "plain", b="let q = 1;"),
                         "q:v0 x:v1 v1:v2 x:v3 y:v4 e:v5")
        self.assertEqual(names_for(Linked([], [], []), "plain"), {})
        self.assertEqual(names_for(Linked([], [], [("let", "x", "m")] * 3), "plain"), {0: "v0", 1: "v1", 2: "v2"})
        self.assertEqual(names_for(Linked([], [], [("let", "x", "m")] * 1001), "plain")[1000], "v1000")


class KeptTest(unittest.TestCase):
    def test_names_of_several_modules_and_scopes(self):
        self.assertEqual(named("let x = 1; { let x = 1; } fun f(x, f) { let x = 1; } try {} catch e { let e = 1; fun g() { let x = 1; } }", "kept"),
                         "x:x f:f x:x_1 x:x_2 f:f_1 x:x_3 e:e e:e_1 g:g x:x_4")
        self.assertEqual(named('import "b"; let x = 1; let y = 2; { let z = 1; }', "kept", b='import "c"; let y = 1; let x = 2;', c="let x = 1; { let z = 1; }"),
                         "x:x y:y x:x_1 x:x_2 y:y_1 z:z z:z_1")

    def test_the_first_free_ending(self):
        self.assertEqual(kept("x", "x", "x"), ["x", "x_1", "x_2"])
        self.assertEqual(kept("x_1", "x", "x"), ["x_1", "x", "x_2"])
        self.assertEqual(kept("x_2", "x", "x", "x", "x_3", "x"), ["x_2", "x", "x_1", "x_3", "x_3_1", "x_4"])
        self.assertEqual(kept("x", "x", "x_1"), ["x", "x_1", "x_1_1"])
        self.assertEqual(kept("x", "x", "x_1", "x_1", "x", "x_1_1"), ["x", "x_1", "x_1_1", "x_1_2", "x_2", "x_1_1_1"])
        self.assertEqual(kept("x", "X", "x", "X", "y"), ["x", "X", "x_1", "X_1", "y"])
        self.assertEqual(kept("x_", "x_", "x__1", "x__1"), ["x_", "x__1", "x__1_1", "x__1_2"])

    def test_no_names(self):
        self.assertEqual(kept(), [])

    def test_endings_of_several_digits(self):
        found = kept(*["x"] * 1002)
        self.assertEqual(found, ["x", *[f"x_{number}" for number in range(1, 1002)]])

    def test_names_that_are_cut(self):
        for length in (17, 18, 19, 20):
            name = "abcdefghijklmnopqrst"[:length]
            self.assertEqual(kept(*[name] * 12), [name, *[name[:18] + f"_{number}" for number in range(1, 10)], name[:17] + "_10", name[:17] + "_11"])
        name = "abcdefghijklmnopqrst"
        found = kept(*[name] * 101)
        self.assertEqual((found[9], found[10], found[99], found[100]),
                         ("abcdefghijklmnopqr_9", "abcdefghijklmnopq_10", "abcdefghijklmnopq_99", "abcdefghijklmnop_100"))
        self.assertEqual({len(word) for word in found}, {20})

    def test_cut_names_that_meet(self):
        first, second, third = "a" * 20, "a" * 18 + "bb", "a" * 18 + "c"
        self.assertEqual(kept(first, second, third, first, second, third, second),
                         [first, second, third, "a" * 18 + "_1", "a" * 18 + "_2", "a" * 18 + "_3", "a" * 18 + "_4"])
        self.assertEqual(kept("a" * 18 + "_1", "a" * 19, "a" * 19, "a" * 18 + "_1"),
                         ["a" * 18 + "_1", "a" * 19, "a" * 18 + "_2", "a" * 18 + "_3"])
        # With one more digit, one more letter goes.
        names = ["a" * 20] * 10 + ["a" * 17 + "_10", "a" * 20]
        self.assertEqual(kept(*names)[-2:], ["a" * 17 + "_10", "a" * 17 + "_11"])

    def test_many_variables(self):
        found = kept(*["x", "y" * 20] * 20000)
        self.assertEqual((found[-2], found[-1]), ("x_19999", "y" * 14 + "_19999"))
        self.assertEqual(len(set(found)), 40000)

    def test_all_variables_also_after_statements_have_been_left_out(self):
        found = linked("fun x(x) { let x = 1; } let x2 = 1;")
        names = names_for(found, "kept")
        self.assertEqual(names, {0: "x", 1: "x2", 2: "x_1", 3: "x_2"})
        self.assertEqual(names_for(shake(found), "kept"), names)
        self.assertEqual(names_for(shake(found), "plain"), {0: "v0", 1: "v1", 2: "v2", 3: "v3"})


class ShortTest(unittest.TestCase):
    def test_the_top(self):
        self.assertEqual(named("let x = 1; fun f() {} tell x; let y = f;"), "x:a f:b y:c")
        self.assertEqual(named('import "b"; let x = 1; let y = 2;', b='import "c"; let y = 1; let x = 2;', c="let z = 1;"), "z:a y:b x:c x:d y:e")
        self.assertEqual(short(), "")
        self.assertEqual(short(do()), "")

    def test_many_variables_in_a_scope(self):
        self.assertLess(sum(word in RESERVED for word in ALL[:2000]), 10)
        names = names_for(Linked([("m", let(number)) for number in range(2000)], [], [("let", "x", "m")] * 2000), "short")
        self.assertEqual(list(names.items()), list(enumerate(FREE[:2000])))
        self.assertEqual((names[25], names[26], names[44], names[236], names[237], names[238]), ("z", "aa", "at", "id", "ie", "ig"))
        inner = ("block", tuple(let(number) for number in range(2000)), 0)
        self.assertEqual(names_for(Linked([("m", inner)], [], [("let", "x", "m")] * 2000), "short"), names)
        function = ("fun", 2000, tuple(range(2000)), (), 0)
        self.assertEqual(names_for(Linked([("m", function)], [], [("let", "x", "m")] * 2001), "short"), {2000: "a", **names})

    def test_reserved_names_are_left_out(self):
        for word in ("as", "if", "or", "and", "ask"):
            self.assertIn(word, ALL[:2000])
            self.assertNotIn(word, FREE)

    def test_a_block(self):
        # Outer variables that do not occur in the block do not matter.
        self.assertEqual(short(let(0), let(1), ("block", (let(2), let(3)), 0)), "0a 1b 2a 3b")
        self.assertEqual(short(let(0), let(1), ("block", (let(2), let(3), do(0)), 0)), "0a 1b 2b 3c")
        self.assertEqual(short(let(0), let(1), ("block", (do(1), let(2), let(3)), 0)), "0a 1b 2a 3c")
        self.assertEqual(short(let(0), let(1), ("block", (let(2), let(3, ("add", ("var", 1), ("var", 0)))), 0)), "0a 1b 2c 3d")
        self.assertEqual(short(let(0), let(1), ("block", (let(2), ("set", 0, ONE, 0)), 0)), "0a 1b 2b")

    def test_what_occurs_outside_the_block_does_not_matter(self):
        self.assertEqual(short(let(0), do(0), ("if", ("var", 0), (let(1),), (let(2), do(0)), 0), do(0)), "0a 1a 2b")
        self.assertEqual(short(let(0), ("repeat", ("var", 0), (let(1),), 0)), "0a 1a")
        self.assertEqual(short(let(0), ("repeat", ("var", 0), (let(1), do(0)), 0)), "0a 1b")

    def test_what_occurs_in_inner_scopes_of_the_block(self):
        self.assertEqual(short(let(0), ("block", (let(1), ("block", (let(2), do(0)), 0)), 0)), "0a 1b 2b")
        self.assertEqual(short(let(0), ("block", (let(1), ("block", (let(2), do(1)), 0)), 0)), "0a 1a 2b")
        self.assertEqual(short(let(0), ("block", (let(1), ("fun", 2, (3,), (do(0),), 0)), 0)), "0a 1b 2c 3b")
        self.assertEqual(short(let(0), ("block", (let(1), let(2, ("lambda", (3,), (do(0, 1, 2),)))), 0)), "0a 1b 2c 3d")

    def test_inner_names_do_not_matter_for_the_outer_scope(self):
        self.assertEqual(short(("block", (("block", (let(3), let(4)), 0), let(2)), 0), let(1)), "1a 2a 3a 4b")
        self.assertEqual(short(("block", (("block", (let(3), do(2), let(4)), 0), let(2)), 0), let(1)), "1a 2a 3b 4c")
        self.assertEqual(short(("block", (("fun", 0, (1,), (let(2),), 0), let(3)), 0)), "0a 1a 2a 3b")

    def test_names_of_several_letters(self):
        top = [let(number) for number in range(26)]
        self.assertEqual(short(*top, ("block", (let(26), let(27), do(*range(26))), 0)).split()[26:], ["26aa", "27ab"])
        self.assertEqual(short(*top, ("block", (let(26), let(27), let(28), do(*range(25))), 0)).split()[26:], ["26z", "27aa", "28ab"])

    def test_parameters_and_the_block_of_a_function(self):
        # The function itself is a, and matters only where it occurs.
        for make in (lambda parameters, block: ("fun", 0, parameters, block, 0), lambda parameters, block: let(0, ("lambda", parameters, block))):
            self.assertEqual(short(make((1, 2), ())), "0a 1a 2b")
            self.assertEqual(short(make((1, 2), (do(0),))), "0a 1b 2c")
            self.assertEqual(short(make((1, 2), (let(3), let(4)))), "0a 1a 2b 3a 4b")
            self.assertEqual(short(make((1, 2), (let(3), let(4), do(1)))), "0a 1a 2b 3b 4c")
            self.assertEqual(short(make((1, 2), (let(3), let(4), do(2)))), "0a 1a 2b 3a 4c")
            self.assertEqual(short(make((1, 2), (let(3), let(4), do(2, 1, 0)))), "0a 1b 2c 3d 4e")
            self.assertEqual(short(make((1, 2), (let(3), do(0)))), "0a 1b 2c 3b")
            self.assertEqual(short(make((2, 1), ())), "0a 1b 2a")

    def test_a_catch_and_its_block(self):
        self.assertEqual(short(("try", (), 1, (), 0)), "1a")
        self.assertEqual(short(("try", (let(0), let(2)), 1, (let(3), let(4)), 0)), "0a 1a 2b 3a 4b")
        self.assertEqual(short(("try", (let(0), let(2)), 1, (let(3), let(4), do(1)), 0)), "0a 1a 2b 3b 4c")
        # What occurs in the first block does not matter for the name, nor the name for the first block.
        self.assertEqual(short(let(0), ("try", (let(2), do(0)), 1, (), 0)), "0a 1a 2b")
        self.assertEqual(short(let(0), ("try", (let(2),), 1, (do(0),), 0)), "0a 1b 2a")
        self.assertEqual(short(let(0), ("try", (), 1, (do(0), let(2)), 0)), "0a 1b 2b")
        self.assertEqual(short(let(0), ("try", (), 1, (do(0, 1), let(2)), 0)), "0a 1b 2c")

    def test_scopes_in_all_places(self):
        function = ("lambda", (5, 6), (let(7), do(0)))
        for statement in (("set", 0, function, 0), ("do", function, 0), ("tell", function, 0), ("throw", ("not", function), 0),
                          ("return", ("ask", function, 0), 0), ("do", ("call", function, ()), 0), ("do", ("call", ONE, (ONE, function)), 0),
                          ("tell", ("add", function, ONE), 0), ("tell", ("eq", ONE, function), 0), ("if", function, (), (), 0),
                          ("repeat", function, (), 0), ("if", ONE, (do(0), ("tell", function, 0)), (), 0), ("if", ONE, (), (("tell", function, 0),), 0),
                          ("repeat", ONE, (("tell", function, 0),), 0), ("block", (("tell", function, 0),), 0),
                          ("tell", ("lambda", (), (("tell", function, 0),)), 0)):
            self.assertEqual(short(let(0), statement), "0a 5b 6c 7b", statement)
        self.assertEqual(short(let(0), ("try", (("tell", function, 0),), 1, (), 0)), "0a 1a 5b 6c 7b")
        self.assertEqual(short(let(0), ("try", (), 1, (("tell", function, 0),), 0)), "0a 1b 5b 6c 7b")

    def test_texts(self):
        self.assertEqual(named("fun f(x, y) { let z = x; return fun(w) { return w + y; }; } let g = f;"), "f:a g:b x:a y:b z:c w:a")
        self.assertEqual(named("let a = 1; fun f(x) { try { throw a; } catch e { let y = e; tell y + x; } }"), "a:a f:b x:b e:a y:c")

    def test_only_declared_variables(self):
        found = linked("fun f(x) { let y = 1; } let g = 1; { let z = fun(u) {}; tell g; } export {g};")
        self.assertEqual(names_for(found, "short"), {0: "a", 1: "b", 2: "a", 3: "a", 4: "a", 5: "a"})
        self.assertEqual(names_for(shake(found), "short"), {1: "a", 4: "b", 5: "a"})
        self.assertEqual(names_for(found.with_statements([]), "short"), {})
        self.assertEqual(names_for(found.with_statements(found.statements()[1:2]), "short"), {1: "a"})


class OptionTest(unittest.TestCase):
    def test_bad_options(self):
        for naming in ("", "Short", "shorts", "tight", "lines", "fold", "short ", None, 0):
            self.assertEqual(refusal(names_for, linked("let x = 1;"), naming), ("BadOption", "naming"), naming)

    def test_arguments_are_not_modified(self):
        found = linked("fun f(x) { let x = 1; }")
        before = (found.statements(), found.exports(), found.variables())
        for naming in ("plain", "kept", "short"):
            names_for(found, naming)[0] = "q"
            self.assertNotEqual(names_for(found, naming)[0], "q")
        self.assertEqual((found.statements(), found.exports(), found.variables()), before)


class MadeProgramsTest(unittest.TestCase):
    def assert_first_free(self, names, numbers, outer, occurring):
        """Check that the variables of a scope have the first names that are free; return the names around what is in it."""
        taken = {names[number] for number in outer if number in occurring}
        for number, usual in zip(numbers, FREE):
            expected = next(word for word in FREE if word not in taken)
            self.assertEqual(names[number], expected)
            taken.add(expected)
            self.others += expected != usual
        return outer | set(numbers)

    def check_block(self, names, block, outer):
        inner = self.assert_first_free(names, [part[1] for part in block if part[0] in ("let", "fun")], outer, slow.numbers(block))
        for statement in block:
            self.check_tree(names, statement, inner)

    def check_tree(self, names, tree, outer):
        if not isinstance(tree, tuple) or not tree:
            return
        kind = tree[0]
        if kind in ("fun", "lambda"):
            parameters, block = tree[2:4] if kind == "fun" else tree[1:3]
            self.check_block(names, block, self.assert_first_free(names, parameters, outer, slow.numbers(block)))
        elif kind == "try":
            self.check_block(names, tree[1], outer)
            self.check_block(names, tree[3], self.assert_first_free(names, [tree[2]], outer, slow.numbers(tree[3])))
        elif kind in ("if", "repeat", "block"):
            for part in tree[1:-1]:
                is_block = not part or isinstance(part[0], tuple)
                (self.check_block if is_block else self.check_tree)(names, part, outer)
        else:
            for part in tree[1:]:
                parts = part if isinstance(part, tuple) and part and isinstance(part[0], tuple) else (part,)
                for inner in parts:
                    self.check_tree(names, inner, outer)

    def test_made_programs(self):
        draw = random.Random(13)
        self.others = 0
        for _ in range(150):
            modules = Maker(draw).modules(draw.randrange(1, 5))
            try:
                found = link(modules, "a")
            except Refused:
                continue
            for passed in (found, shake(found)):
                names = names_for(passed, "short")
                self.check_block(names, tuple(statement for _, statement in passed.statements()), set())
            for naming in ("plain", "kept"):
                names = names_for(found, naming)
                self.assertEqual(list(names), list(range(len(found.variables()))))
                self.assertEqual(len(set(names.values())), len(names))
                self.assertTrue(all(map(is_name, names.values())))
        self.assertGreater(self.others, 500)


if __name__ == "__main__":
    unittest.main()
