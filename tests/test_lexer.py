"""Points 1.1 to 1.3: tokens."""

import string
import unittest

from fascicle import lexer
from fascicle.lexer import RESERVED, is_name, tokens

from helper import lexed, malformed

WORDS = (
    "and as ask catch else export false from fun if import let none not or repeat return tell "
    "throw true try"
).split()

SIGNS = ["==", "=", "<", "+", "-", "*", ".", ",", ";", "(", ")", "{", "}"]


class GapsTest(unittest.TestCase):
    """Point 1.1."""

    def test_nothing_but_gaps(self):
        for text in ("", " ", "\t", "\n", " \t\n \n", "#", "# x", "# x\n", "#\n#", " #a\n\t#b"):
            self.assertEqual(lexed(text), [], text)

    def test_gaps_between_tokens(self):
        for gap in (" ", "\t", "\n", " \t\n", "#\n", "# let # 5 \"\n", "#a\n#b\n", "\n#a\n\n"):
            expected = [("name", "a", 0), ("name", "b", 1 + len(gap))]
            self.assertEqual(lexed("a" + gap + "b"), expected, gap)

    def test_gaps_around_tokens(self):
        self.assertEqual(lexed(" \n a \t#end"), [("name", "a", 3)])

    def test_tokens_need_no_gap(self):
        self.assertEqual(
            lexed('a=1+"b"c#d'),
            [("name", "a", 0), ("sign", "=", 1), ("number", 1, 2), ("sign", "+", 3),
             ("string", "b", 4), ("name", "c", 7)],
        )

    def test_a_comment_ends_before_the_newline(self):
        self.assertEqual(lexed("#a\nb"), [("name", "b", 3)])
        self.assertEqual(lexed("a#b\nc#d\ne"), [("name", "a", 0), ("name", "c", 4), ("name", "e", 8)])

    def test_a_comment_ends_at_the_end_of_the_text(self):
        self.assertEqual(lexed("a # b c"), [("name", "a", 0)])

    def test_a_comment_contains_any_other_character(self):
        self.assertEqual(lexed("#\r\0\u00e9\u2028\x0b!\"#%\na"), [("name", "a", 11)])

    def test_a_comment_directly_behind_a_token(self):
        for word, token in (("1", ("number", 1, 0)), ('"a"', ("string", "a", 0)), ("a", ("name", "a", 0))):
            self.assertEqual(lexed(word + "#x"), [token])

    def test_other_white_space_is_no_gap(self):
        for char in "\r\x0b\x0c\u00a0\u2028\u0085\x1c\u3000":
            self.assertEqual(lexed("a" + char + "b"), malformed(1), repr(char))

    def test_length_of_the_text(self):
        self.assertEqual(lexed(" " * 20000), [])
        self.assertEqual(lexed(" " * 20001), ("Oversized", "text"))
        self.assertEqual(len(lexed(";" * 20000)), 20000)
        self.assertEqual(lexed(";" * 20001), ("Oversized", "text"))
        self.assertEqual(lexed("a" + " " * 19999), [("name", "a", 0)])
        self.assertEqual(lexed("#" * 20000), [])
        self.assertEqual(lexed("#" * 20001), ("Oversized", "text"))
        self.assertEqual(lexed("#" + "\u00e9" * 19999), [])


class TokensTest(unittest.TestCase):
    """Point 1.2."""

    def test_example_of_the_interface(self):
        self.assertEqual(
            tokens('import "m2"; x=1', "a"),
            [("word", "import", 0), ("string", "m2", 7), ("sign", ";", 11), ("name", "x", 13),
             ("sign", "=", 14), ("number", 1, 15)],
        )

    def test_the_kinds_of_the_values(self):
        found = tokens('let a 1 "b" ;', "m")
        self.assertIs(type(found), list)
        self.assertEqual([type(token) for token in found], [tuple] * 5)
        self.assertEqual([type(token[1]) for token in found], [str, str, int, str, str])

    def test_reserved(self):
        self.assertIs(type(RESERVED), tuple)
        self.assertEqual(RESERVED, tuple(WORDS))

    def test_reserved_words(self):
        for word in WORDS:
            self.assertEqual(lexed(" " + word + ";"), [("word", word, 1), ("sign", ";", 1 + len(word))])

    def test_names_like_reserved_words(self):
        for word in WORDS:
            for name in (word + "s", word + "_", word + "0", "x" + word, word.upper(), word.title()):
                self.assertEqual(lexed(name), [("name", name, 0)], name)

    def test_parts_of_reserved_words(self):
        for word in WORDS:
            for end in range(1, len(word)):
                kind = "word" if word[:end] in WORDS else "name"
                self.assertEqual(lexed(word[:end]), [(kind, word[:end], 0)])

    def test_each_character_of_a_name(self):
        for char in string.ascii_letters:
            self.assertEqual(lexed(char), [("name", char, 0)])
        for char in string.ascii_letters + string.digits + "_":
            self.assertEqual(lexed("x" + char + "y"), [("name", "x" + char + "y", 0)])

    def test_a_name_does_not_begin_with_an_underscore(self):
        self.assertEqual(lexed("_"), malformed(0))
        self.assertEqual(lexed("a _b"), malformed(2))

    def test_length_of_names(self):
        for name in ("a" * 20, "a_1" + "Z" * 17, "let" + "t" * 17):
            self.assertEqual(lexed(name + ";"), [("name", name, 0), ("sign", ";", 20)])
            self.assertEqual(lexed(" " + name + "b"), malformed(1))
            self.assertEqual(lexed(name + "1"), malformed(0))
            self.assertEqual(lexed(name + "_"), malformed(0))

    def test_numbers(self):
        for number in (0, 1, 7, 9, 10, 42, 100, 9999, 10000, 65534, 65535):
            text = str(number)
            self.assertEqual(lexed(text), [("number", number, 0)])
            self.assertEqual(lexed(text + ";"), [("number", number, 0), ("sign", ";", len(text))])

    def test_numbers_that_are_refused(self):
        for text in ("65536", "99999", "100000", "00", "01", "000", "065535", "00000", "1" * 5000):
            self.assertEqual(lexed(text), malformed(0), text)
            self.assertEqual(lexed("a " + text + " b"), malformed(2), text)
        self.assertEqual(lexed("9" * 20000), malformed(0))

    def test_what_follows_a_number_directly(self):
        for char in string.ascii_letters + "_":
            self.assertEqual(lexed("x 1" + char), malformed(2), char)
            self.assertEqual(lexed("0" + char), malformed(0), char)
        self.assertEqual(lexed("1let"), malformed(0))
        self.assertEqual(lexed("1 let"), [("number", 1, 0), ("word", "let", 2)])
        self.assertEqual(lexed('1"a"2'), [("number", 1, 0), ("string", "a", 1), ("number", 2, 4)])
        self.assertEqual(lexed("1.5"), [("number", 1, 0), ("sign", ".", 1), ("number", 5, 2)])
        self.assertEqual(lexed("-1"), [("sign", "-", 0), ("number", 1, 1)])
        self.assertEqual(lexed("1\u00e9"), malformed(1))

    def test_digits_of_other_scripts(self):
        for text in ("\u0661", "\u00b2", "\uff11"):
            self.assertEqual(lexed(text), malformed(0))
            self.assertEqual(lexed("1" + text), malformed(1))
            self.assertEqual(lexed("a" + text), malformed(1))

    def test_letters_of_other_scripts(self):
        for text in ("\u00e9", "\u0430", "\uff41", "\u017f", "\u212a"):
            self.assertEqual(lexed(text), malformed(0))
            self.assertEqual(lexed("a" + text), malformed(1))
            self.assertEqual(lexed('"' + text + '"'), malformed(0))

    def test_strings(self):
        for word in ("a", "0", "_", "let", "01", "1a", "__", "Az_09", "x" * 20, "1" * 20):
            self.assertEqual(lexed('"' + word + '"'), [("string", word, 0)])
            self.assertEqual(
                lexed(' "' + word + '"x'),
                [("string", word, 1), ("name", "x", 3 + len(word))],
            )

    def test_strings_that_are_refused(self):
        for text in ('""', '"' + "x" * 21 + '"', '"a b"', '"a-b"', '"a#b"', '"a\nb"', '"\u00e9"',
                     '"', '"a', '"' + "x" * 20, '"a;', "\"a'", '"a" "b', '"ab\\"'):
            at = 4 if text == '"a" "b' else 0
            self.assertEqual(lexed(text), malformed(at), text)
        self.assertEqual(lexed("a \"b"), malformed(2))
        self.assertEqual(lexed('"a""'), malformed(3))
        self.assertEqual(lexed("'a'"), malformed(0))

    def test_signs(self):
        for sign in SIGNS:
            self.assertEqual(lexed("a" + sign + "b"),
                             [("name", "a", 0), ("sign", sign, 1), ("name", "b", 1 + len(sign))])

    def test_the_longest_sign(self):
        self.assertEqual(lexed("=="), [("sign", "==", 0)])
        self.assertEqual(lexed("= ="), [("sign", "=", 0), ("sign", "=", 2)])
        self.assertEqual(lexed("==="), [("sign", "==", 0), ("sign", "=", 2)])
        self.assertEqual(lexed("===="), [("sign", "==", 0), ("sign", "==", 2)])
        self.assertEqual(lexed("<="), [("sign", "<", 0), ("sign", "=", 1)])
        self.assertEqual(lexed("**"), [("sign", "*", 0), ("sign", "*", 1)])

    def test_other_characters(self):
        allowed = string.ascii_letters + string.digits + "#=<+-*.,;(){} \t\n"
        for char in map(chr, range(256)):
            if char not in allowed:
                self.assertEqual(lexed(char), malformed(0), repr(char))


class NamesTest(unittest.TestCase):
    """The function is_name, of point 1.2."""

    def test_names(self):
        for value in ("a", "Z", "a1", "a_", "aB_9", "x" * 20, "lets", "Let", "tryy", "ask_"):
            self.assertIs(is_name(value), True, value)

    def test_strings_that_are_no_names(self):
        for value in ("", "1", "_", "_a", "1a", "x" * 21, "a b", " a", "a ", "a-b", "a\n", "a.b",
                      "\u00e9", "a\u00e9", '"a"', "#", "\u0661", "a\u0661", "end ", "+"):
            self.assertIs(is_name(value), False, value)

    def test_reserved_words(self):
        for word in WORDS:
            self.assertIs(is_name(word), False, word)

    def test_values_of_other_kinds(self):
        for value in (0, 1, True, False, None, b"a", 1.5, ["a"], ("a",), {"a"}, {"a": 1}, len,
                      object(), str, [], (), {}):
            self.assertIs(is_name(value), False, repr(value))


class RefusalsTest(unittest.TestCase):
    """Point 1.3."""

    def test_the_text_comes_before_anything_else(self):
        self.assertEqual(lexed("!" + " " * 20000), ("Oversized", "text"))
        self.assertEqual(lexed("!" + " " * 19999), malformed(0))

    def test_the_first_token_that_is_not_well_formed(self):
        self.assertEqual(lexed("a ! 01 ?"), malformed(2))
        self.assertEqual(lexed("let x = 01; !"), malformed(8))
        self.assertEqual(lexed('a\n "b" # !\n ""'), malformed(12))
        self.assertEqual(lexed("a" * 21 + " !"), malformed(0))

    def test_the_module_is_that_of_the_argument(self):
        for module in ("a", "", "some module"):
            with self.assertRaises(lexer.Malformed) as caught:
                tokens("x !", module)
            self.assertEqual((caught.exception.module, caught.exception.at), (module, 2))

    def test_a_bad_token_at_the_very_end(self):
        self.assertEqual(lexed(" " * 19999 + "!"), malformed(19999))


if __name__ == "__main__":
    unittest.main()
