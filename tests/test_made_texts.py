"""Points 2.1 to 2.7 over made texts, whose trees, depths and levels are known from the making."""

import random
import unittest

from helper import DEPTH, NESTING, parsed

LEAVES = (("1", ("int", 1)), ("true", ("bool", True)), ("false", ("bool", False)), ("none", ("none",)))
GAPS = (" ", " ", " ", "\n", "\t ", " # 1 let\n")
NAMES = ("a", "b", "lets", "as_", "f")


class Maker:
    """A text, the greatest level in it, and chance. Each method makes one thing of the grammar.

    The methods for expressions and statements return the pair of the tree and the depth.
    """

    def __init__(self, draw):
        self.draw = draw
        self.text = draw.choice(("", " ", "# head\n"))
        self.greatest = 1
        self.functions = 0
        self.left = 0

    def put(self, token):
        """Put a token at the end of the text; return its index."""
        at = len(self.text)
        self.text += token + self.draw.choice(GAPS)
        return at

    def level(self, level):
        self.greatest = max(self.greatest, level)
        return level

    def once(self, chance):
        """Return True now and then, as long as the text is short."""
        self.left -= 1
        return self.left > 0 and self.draw.randrange(100) < chance

    def name(self):
        name = self.draw.choice(NAMES)
        self.put(name)
        return name

    def chain(self, level, below, kinds, chance):
        tree, depth = below(level)
        while self.once(chance):
            sign = self.draw.choice(sorted(kinds))
            self.put(sign)
            level = self.level(level + 1)
            right, right_depth = below(level)
            tree, depth = (kinds[sign], tree, right), 1 + max(depth, right_depth)
        return tree, depth

    def expression(self, level):
        return self.chain(level, self.both, {"or": "or"}, 8)

    def both(self, level):
        return self.chain(level, self.plain, {"and": "and"}, 8)

    def plain(self, level):
        if self.once(8):
            self.put("not")
            tree, depth = self.plain(self.level(level + 1))
            return ("not", tree), depth + 1
        left, depth = self.sum(level)
        if not self.once(10):
            return left, depth
        sign = self.draw.choice(("<", "=="))
        self.put(sign)
        right, right_depth = self.sum(self.level(level + 1))
        return ("lt" if sign == "<" else "eq", left, right), 1 + max(depth, right_depth)

    def sum(self, level):
        return self.chain(level, self.product, {"+": "add", "-": "sub"}, 12)

    def product(self, level):
        return self.chain(level, self.called, {"*": "mul"}, 10)

    def called(self, level):
        tree, depth = self.primary(level)
        while self.once(12):
            self.put("(")
            level = self.level(level + 1)
            arguments = []
            for index in range(self.draw.randrange(3)):
                if index:
                    self.put(",")
                arguments.append(self.expression(self.level(level + 1)))
            self.put(")")
            tree = ("call", tree, tuple(argument for argument, _ in arguments))
            depth = 1 + max([depth] + [more for _, more in arguments])
        return tree, depth

    def primary(self, level):
        kind = self.draw.randrange(10) if self.once(90) else 9
        if kind == 0:
            at = self.put("ask")
            tree, depth = self.enclosed(level)
            return ("ask", tree, at), depth + 1
        if kind == 1:
            self.put("fun")
            parameters = self.parameters()
            block, depth = self.function_block(level)
            return ("lambda", parameters, block), depth + 1
        if kind < 5:
            return self.enclosed(level)
        if kind == 5:
            space = self.name()
            self.put(".")
            return ("member", space, self.name()), 1
        if kind == 6:
            text, tree = self.draw.choice(LEAVES)
            self.put(text)
            return tree, 1
        return ("var", self.name()), 1

    def enclosed(self, level):
        self.put("(")
        made = self.expression(self.level(level + 1))
        self.put(")")
        return made

    def parameters(self):
        self.put("(")
        names = []
        for index in range(self.draw.randrange(3)):
            if index:
                self.put(",")
            names.append(self.name())
        self.put(")")
        return tuple(names)

    def block(self, level):
        """Make a block; return its statements and the greatest depth of one."""
        level = self.level(level + 1)
        self.put("{")
        made = []
        while self.once(60):
            made.append(self.statement(level))
        self.put("}")
        return tuple(tree for tree, _ in made), max([0] + [depth for _, depth in made])

    def function_block(self, level):
        self.functions += 1
        made = self.block(level)
        self.functions -= 1
        return made

    def ended(self, level):
        made = self.expression(level)
        self.put(";")
        return made

    def statement(self, level):
        kinds = ["let", "fun", "set", "do", "tell", "throw", "if", "repeat", "try", "block"]
        if self.functions:
            kinds += ["return", "return"]
        kind = self.draw.choice(kinds)
        if kind in ("if", "repeat", "try", "block", "fun"):
            return self.with_blocks(kind, level)
        if kind == "do":
            at = len(self.text)
            tree, depth = self.ended(level)
            return ("do", tree, at), depth + 1
        if kind in ("let", "set"):
            at = self.put("let") if kind == "let" else len(self.text)
            name = self.name()
            self.put("=")
            tree, depth = self.ended(level)
            return (kind, name, tree, at), depth + 1
        at = self.put(kind)
        tree, depth = self.ended(level)
        return (kind, tree, at), depth + 1

    def with_blocks(self, kind, level):
        at = self.put(kind) if kind != "block" else len(self.text)
        if kind == "block":
            block, depth = self.block(level)
            return ("block", block, at), depth + 1
        if kind == "fun":
            name = self.name()
            parameters = self.parameters()
            block, depth = self.function_block(level)
            return ("fun", name, parameters, block, at), depth + 1
        if kind == "try":
            first, depth = self.block(level)
            self.put("catch")
            name = self.name()
            second, other = self.block(level)
            return ("try", first, name, second, at), 1 + max(depth, other)
        tree, depth = self.expression(level)
        first, other = self.block(level)
        if kind == "repeat":
            return ("repeat", tree, first, at), 1 + max(depth, other)
        second, last = (), 0
        if self.draw.randrange(2):
            self.put("else")
            second, last = self.block(level)
        return ("if", tree, first, second, at), 1 + max(depth, other, last)

    def item(self):
        """Make a statement at the top, sometimes with many parentheses and negations."""
        self.left = self.draw.randrange(1, 80)
        more = self.draw.choice((0, 0, 0, 20, 30, 34, 36, 37, 38))
        if not more:
            return self.statement(1)
        at = self.put("tell")
        for level in range(more):
            self.put("(")
            self.level(level + 2)
        negations = self.draw.choice((0, 0, 0, 5, 8, 9, 10))
        for level in range(negations):
            self.put("not")
            self.level(more + level + 2)
        tree, depth = self.plain(more + negations + 1)
        for _ in range(negations):
            tree = ("not", tree)
        for _ in range(more):
            self.put(")")
        self.put(";")
        return ("tell", tree, at), depth + negations + 1


class MadeTextsTest(unittest.TestCase):
    def test_made_texts(self):
        draw = random.Random(8)
        counts = {"items": 0, DEPTH: 0, NESTING: 0}
        for _ in range(3000):
            maker = Maker(draw)
            expected = []
            for _ in range(draw.randrange(1, 4)):
                tree, depth = maker.item()
                if isinstance(expected, list):
                    expected.append(tree)
                    if maker.greatest > 40:
                        expected = NESTING
                    elif depth > 12:
                        expected = DEPTH
            if len(maker.text) > 20000:
                continue
            self.assertEqual(parsed(maker.text), expected, maker.text)
            counts["items" if isinstance(expected, list) else expected] += 1
        for count in counts.values():
            self.assertGreater(count, 100, counts)


if __name__ == "__main__":
    unittest.main()
