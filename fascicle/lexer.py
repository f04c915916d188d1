"""Splitting the text of a module into tokens."""

from fascicle.errors import Malformed, Oversized

RESERVED = (
    "and", "as", "ask", "catch", "else", "export", "false", "from", "fun", "if", "import", "let",
    "none", "not", "or", "repeat", "return", "tell", "throw", "true", "try",
)

# The first sign that fits is the longest one, because == stands before =.
SIGNS = ("==", "=", "<", "+", "-", "*", ".", ",", ";", "(", ")", "{", "}")

LETTERS = "abcdefghijklmnopqrstuvwxyzABCDEFGHIJKLMNOPQRSTUVWXYZ"
WORD_CHARACTERS = "abcdefghijklmnopqrstuvwxyzABCDEFGHIJKLMNOPQRSTUVWXYZ_0123456789"

MOST_CHARACTERS = 20000
LONGEST_WORD = 20
MOST_DIGITS = 5
GREATEST_NUMBER = 65535


def tokens(text, module):
    """Return the list of the tokens of a text; module is the name for errors."""
    if len(text) > MOST_CHARACTERS:
        raise Oversized("text")
    found = []
    at = gap_end(text, 0)
    while at < len(text):
        token, end = token_at(text, at)
        if token is None:
            raise Malformed(module, at)
        found.append(token)
        at = gap_end(text, end)
    return found


def is_name(value):
    """Return True if a value of any kind is a string that is a name."""
    if not isinstance(value, str) or value == "":
        return False
    return value[0] in LETTERS and word_end(value, 0) == len(value) and name_fits(value)


def name_fits(word):
    """Return True if a word that is formed like a name may be one."""
    return len(word) <= LONGEST_WORD and word not in RESERVED


def gap_end(text, at):
    """Return the index of the first character from at on that no gap between tokens contains."""
    while at < len(text):
        if text[at] == "#":
            at = comment_end(text, at)
        elif text[at] in " \t\n":
            at += 1
        else:
            return at
    return at


def comment_end(text, at):
    """Return the index of the newline behind a comment, or the length of the text."""
    end = text.find("\n", at)
    if end < 0:
        return len(text)
    return end


def word_end(text, at):
    """Return the index of the first character from at on that is no letter, digit or underscore."""
    while at < len(text) and text[at] in WORD_CHARACTERS:
        at += 1
    return at


def token_at(text, at):
    """Return the token that begins at an index, or None if it is not well formed, and its end."""
    if text[at] in LETTERS:
        return word_at(text, at)
    if text[at] in WORD_CHARACTERS:
        return number_at(text, at)
    if text[at] == '"':
        return string_at(text, at)
    return sign_at(text, at)


def word_at(text, at):
    """Return the reserved word or name that begins at an index, or None, and its end."""
    end = word_end(text, at)
    word = text[at:end]
    if word in RESERVED:
        return ("word", word, at), end
    if name_fits(word):
        return ("name", word, at), end
    return None, end


def number_at(text, at):
    """Return the number that begins at an index, or None, and its end."""
    # All that could follow a number directly and spoil it is in the same word as its digits.
    end = word_end(text, at)
    digits = text[at:end]
    if not digits.isdigit() or len(digits) > MOST_DIGITS:
        return None, end
    if digits[0] == "0" and digits != "0":
        return None, end
    if int(digits) > GREATEST_NUMBER:
        return None, end
    return ("number", int(digits), at), end


def string_at(text, at):
    """Return the string that begins with the quote at an index, or None, and its end."""
    end = word_end(text, at + 1)
    word = text[at + 1:end]
    if word == "" or len(word) > LONGEST_WORD or not text.startswith('"', end):
        return None, end
    return ("string", word, at), end + 1


def sign_at(text, at):
    """Return the longest sign that begins at an index, or None, and its end."""
    for sign in SIGNS:
        if text.startswith(sign, at):
            return ("sign", sign, at), at + len(sign)
    return None, at
