"""Points 2.1 and 2.7: the parser beside a slow reader of the grammar, over many short texts."""

import random
import unittest

from fascicle.lexer import tokens
from fascicle.parser import parse

from grammar import RULES, first_misfit
from helper import DEPTH, NESTING, malformed, parsed

SPELLED = {"name": ("a", "b"), "number": ("1", "20"), "string": ('"m"', '"or"')}
KEYS = sorted(
    {symbol for sides in RULES.values() for side in sides for symbol in side if symbol not in RULES}
)


def key(token):
    return token[1] if token[0] in ("word", "sign") else token[0]


def derived(draw, symbol, left):
    """Return a list of keys that a symbol stands for; the fewer are left, the shorter."""
    if symbol not in RULES:
        return [symbol]
    sides = RULES[symbol]
    if left <= 0:
        sides = sides[:1]
    side = draw.choice(sides)
    return [key for part in side for key in derived(draw, part, left - 1)]


def changed(draw, keys):
    """Return a list of keys with some faults."""
    keys = list(keys)
    for _ in range(draw.randrange(1, 3)):
        at = draw.randrange(len(keys) + 1)
        kind = draw.randrange(4)
        if kind == 0:
            keys.insert(at, draw.choice(KEYS))
        elif kind == 1:
            keys[at:at + 1] = [draw.choice(KEYS)]
        elif kind == 2:
            del keys[at:at + draw.randrange(1, 3)]
        else:
            keys = keys[:at]
    return keys


def spelled(draw, keys):
    words = [draw.choice(SPELLED.get(word, (word,))) for word in keys]
    return " ".join(words) + draw.choice(("", " ", "\n# end"))


class GrammarTest(unittest.TestCase):
    def compare(self, text):
        """Compare the parser with the reader; return whether the text was accepted."""
        read = tokens(text, "m")
        misfit = first_misfit([key(token) for token in read])
        found = parsed(text)
        if misfit is None:
            if found != DEPTH:
                self.assertIsInstance(found, list, text)
            return True
        at = read[misfit][2] if misfit < len(read) else len(text)
        self.assertEqual(found, malformed(at), text)
        return False

    def test_the_reader_itself(self):
        for text, misfit in (("", None), ("a;", None), ("a", 1), (";", 0), ("fun f(){return a;}", None),
                             ("return a;", 0), ("a b;", 1), ("f(a)(b, c);", None), ("a < b < c;", 3)):
            self.assertEqual(first_misfit([key(token) for token in tokens(text, "m")]), misfit, text)

    def test_texts_of_the_grammar_and_texts_with_faults(self):
        draw = random.Random(2026)
        accepted = refused = 0
        while accepted < 400 or refused < 400:
            keys = derived(draw, "item", draw.randrange(4, 16)) + derived(draw, "item", 6)
            if len(keys) > 60:
                continue
            if draw.randrange(2):
                keys = changed(draw, keys)
            if self.compare(spelled(draw, keys)):
                accepted += 1
            else:
                refused += 1

    def test_texts_of_any_tokens(self):
        draw = random.Random(11)
        for _ in range(400):
            self.compare(spelled(draw, [draw.choice(KEYS) for _ in range(draw.randrange(1, 6))]))

    def test_every_pair_of_tokens(self):
        draw = random.Random(19)
        for first in KEYS:
            for second in KEYS:
                self.compare(spelled(draw, [first, second]))


class RefusalsTest(unittest.TestCase):
    """Point 2.7, by hand."""

    def test_what_the_tokens_refuse_comes_before_all_else(self):
        self.assertEqual(parsed("a b; 01"), malformed(5))
        self.assertEqual(parsed(") !"), malformed(2))
        self.assertEqual(parsed("(" * 50 + "!"), malformed(50))
        self.assertEqual(parsed(")" + " " * 20000), ("Oversized", "text"))
        self.assertEqual(parsed("!" + " " * 20000), ("Oversized", "text"))
        self.assertEqual(parsed("a;" + " " * 19998), [("do", ("var", "a"), 0)])
        self.assertEqual(parsed('import "m";' + ' "' + "x" * 21 + '"'), malformed(12))

    def test_reserved_words_among_statements(self):
        for word in ("and", "as", "catch", "else", "from", "or"):
            self.assertEqual(parsed(f"a; {word} b;"), malformed(3), word)
            self.assertEqual(parsed(f"{{ {word} b;}}"), malformed(2), word)
            self.assertEqual(parsed(f"a = {word};"), malformed(4), word)
        for word in ("let", "tell", "throw", "return", "if", "repeat", "try", "import", "export"):
            self.assertEqual(parsed(f"a = {word};"), malformed(4), word)

    def test_braces_at_the_top(self):
        self.assertEqual(parsed("}"), malformed(0))
        self.assertEqual(parsed("a; } b;"), malformed(3))
        self.assertEqual(parsed("{} }"), malformed(3))

    def test_no_more_tokens(self):
        for text in ("a", "let", "{", "if a", "a +", "f(", 'import "m"', "export {a}", "fun f(", "try {}", "a.",
                     "not", "ask(", "tell a"):
            self.assertEqual(parsed(text), malformed(len(text)), text)
            for gap in (" ", "\n\t ", " # behind", "#x\n"):
                self.assertEqual(parsed(text + gap), malformed(len(text + gap)), text + gap)

    def test_the_first_of_several_faults(self):
        self.assertEqual(parsed("let a = ; let b = ;"), malformed(8))
        self.assertEqual(parsed("let a = 1; b c; }"), malformed(13))

    def test_the_module_is_that_of_the_argument(self):
        for module in ("a", "", "x y"):
            with self.assertRaises(ValueError) as caught:
                parse("a b", module)
            self.assertEqual((caught.exception.module, caught.exception.at), (module, 2))

    def test_parsing_twice_gives_the_same(self):
        text = "export fun f(a) { return ask(a); } tell f(1);"
        self.assertEqual(parse(text, "m"), parse(text, "n"))
        self.assertIsNot(parse(text, "m"), parse(text, "m"))
        self.assertEqual(parsed("(" * 41), NESTING)


if __name__ == "__main__":
    unittest.main()
