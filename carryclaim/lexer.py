"""Splits a text into tokens (section 3 of the document)."""

LETTERS = "abcdefghijklmnopqrstuvwxyz"
DIGITS = "0123456789"
WORD_CHARACTERS = "abcdefghijklmnopqrstuvwxyz0123456789_"
LONG_SIGNS = ("==", "!=", "<=")
SHORT_SIGNS = ("(", ")", "{", "}", "[", "]", ",", ";", "=", "<", "+", "-", "*", "/")
LONGEST_WORD = 12
LARGEST_NUMBER = 10000
RESERVED_WORDS = (
    "global", "proc", "ask", "tell", "check", "need", "return", "if", "else", "while", "call", "to",
    "mod", "not", "and", "or",
)


def tokens(text):
    """Return the tokens (kind, value, line, column); an error is the last one."""
    found = []
    line = 1
    line_start = 0
    at = 0
    while at < len(text):
        if text[at] == "\n":
            at += 1
            line += 1
            line_start = at
        elif text[at] == " ":
            at += 1
        else:
            end = token_end(text, at)
            kind, value = read_token(text[at:end])
            found.append((kind, value, line, at - line_start + 1))
            if kind == "error":
                break
            at = end
    return tuple(found)


def token_end(text, start):
    """Return the index behind the token, right or wrong, that begins at start."""
    if text[start] in LETTERS:
        return run_end(text, start, WORD_CHARACTERS)
    if text[start] in DIGITS:
        return run_end(text, start, DIGITS)
    if text[start:start + 2] in LONG_SIGNS:
        return start + 2
    return start + 1


def run_end(text, start, characters):
    """Return the index of the first character from start on that is no such one."""
    end = start
    while end < len(text) and text[end] in characters:
        end += 1
    return end


def read_token(part):
    """Return the kind and the value of a part of the text that token_end cut out."""
    if part[0] in LETTERS and len(part) <= LONGEST_WORD:
        return ("word", part)
    if part[0] in DIGITS and is_number(part):
        return ("number", int(part))
    if part in LONG_SIGNS or part in SHORT_SIGNS:
        return ("sign", part)
    return ("error", "")


def is_number(digits):
    """Tell whether the digits have no needless zero in front and are not too large."""
    if digits[0] == "0":
        return len(digits) == 1
    # The length comes first: Python's int refuses texts of thousands of digits.
    return len(digits) <= len(str(LARGEST_NUMBER)) and int(digits) <= LARGEST_NUMBER
