"""Point 3: the tokens of a text."""

import unittest

from carryclaim.lexer import tokens

SIGNS = "( ) { } [ ] , ; = == != < <= + - * /".split()
RESERVED = (
    "global proc ask tell check need return if else while call to mod not and or"
).split()


def parts(text):
    """The kinds and values of the tokens."""
    return [token[:2] for token in tokens(text)]


def places(text):
    """The lines and columns of the tokens."""
    return [token[2:] for token in tokens(text)]


class Words(unittest.TestCase):
    def test_word_with_all_kinds_of_characters(self):
        self.assertEqual(tokens("a"), (("word", "a", 1, 1),))
        self.assertEqual(tokens("z_9a__0"), (("word", "z_9a__0", 1, 1),))

    def test_each_letter_begins_a_word(self):
        for letter in "abcdefghijklmnopqrstuvwxyz":
            with self.subTest(letter):
                self.assertEqual(tokens(letter), (("word", letter, 1, 1),))
                self.assertEqual(tokens("q" + letter), (("word", "q" + letter, 1, 1),))

    def test_each_digit_and_the_underscore_go_on_with_a_word(self):
        for character in "0123456789_":
            with self.subTest(character):
                self.assertEqual(tokens("q" + character), (("word", "q" + character, 1, 1),))

    def test_reserved_words_are_words(self):
        for word in RESERVED:
            with self.subTest(word):
                self.assertEqual(tokens(word), (("word", word, 1, 1),))

    def test_words_that_only_begin_like_reserved_ones(self):
        self.assertEqual(parts("iff if0 to_ notx"), [("word", w) for w in "iff if0 to_ notx".split()])

    def test_longest_word(self):
        self.assertEqual(tokens("abcdefghijkl"), (("word", "abcdefghijkl", 1, 1),))
        self.assertEqual(tokens("a23456789_12"), (("word", "a23456789_12", 1, 1),))

    def test_longer_words_are_errors_where_they_begin(self):
        self.assertEqual(tokens("abcdefghijklm"), (("error", "", 1, 1),))
        self.assertEqual(tokens("x a23456789_123 y"), (("word", "x", 1, 1), ("error", "", 1, 3)))
        self.assertEqual(tokens("a" * 5000), (("error", "", 1, 1),))

    def test_capital_letters_and_underscores_begin_no_word(self):
        self.assertEqual(tokens("_a"), (("error", "", 1, 1),))
        self.assertEqual(tokens("A"), (("error", "", 1, 1),))
        self.assertEqual(tokens("aB"), (("word", "a", 1, 1), ("error", "", 1, 2)))


class Numbers(unittest.TestCase):
    def test_numbers_are_integers(self):
        for number in (0, 1, 9, 10, 99, 100, 999, 1000, 9999, 10000):
            with self.subTest(number):
                self.assertEqual(tokens(str(number)), (("number", number, 1, 1),))
                self.assertIs(type(tokens(str(number))[0][1]), int)

    def test_too_large_numbers(self):
        for text in ("10001", "10010", "20000", "99999", "100000", "1000000000000"):
            with self.subTest(text):
                self.assertEqual(tokens(text), (("error", "", 1, 1),))

    def test_numbers_of_very_many_digits(self):
        # Python's own int refuses more than 4300 digits.
        self.assertEqual(tokens("9" * 6000), (("error", "", 1, 1),))
        self.assertEqual(tokens("0" * 6000), (("error", "", 1, 1),))

    def test_leading_zeros(self):
        for text in ("00", "01", "007", "010000", "0000000"):
            with self.subTest(text):
                self.assertEqual(tokens("x " + text), (("word", "x", 1, 1), ("error", "", 1, 3)))

    def test_a_number_ends_where_the_digits_end(self):
        self.assertEqual(tokens("12ab"), (("number", 12, 1, 1), ("word", "ab", 1, 3)))
        self.assertEqual(tokens("0a0"), (("number", 0, 1, 1), ("word", "a0", 1, 2)))
        self.assertEqual(tokens("1_"), (("number", 1, 1, 1), ("error", "", 1, 2)))
        self.assertEqual(tokens("1.5"), (("number", 1, 1, 1), ("error", "", 1, 2)))

    def test_a_minus_is_a_token_of_its_own(self):
        self.assertEqual(tokens("-5"), (("sign", "-", 1, 1), ("number", 5, 1, 2)))


class Signs(unittest.TestCase):
    def test_each_sign(self):
        for sign in SIGNS:
            with self.subTest(sign):
                self.assertEqual(tokens(sign), (("sign", sign, 1, 1),))

    def test_all_signs_with_blanks(self):
        self.assertEqual(parts(" ".join(SIGNS)), [("sign", sign) for sign in SIGNS])

    def test_each_two_signs_side_by_side(self):
        for first in SIGNS:
            for second in SIGNS:
                text = first + second
                if first in "=<!" and second[0] == "=":
                    wanted = [("sign", first + "=")] + ([("sign", "=")] if len(second) == 2 else [])
                else:
                    wanted = [("sign", first), ("sign", second)]
                with self.subTest(text):
                    self.assertEqual(parts(text), wanted)

    def test_longest_sign_first(self):
        cases = {
            "===": ["==", "="],
            "====": ["==", "=="],
            "<==": ["<=", "="],
            "<===": ["<=", "=="],
            "!==": ["!=", "="],
            "=<": ["=", "<"],
            "=<=": ["=", "<="],
            "<<=": ["<", "<="],
            "=!=": ["=", "!="],
        }
        for text, signs in cases.items():
            with self.subTest(text):
                self.assertEqual(parts(text), [("sign", sign) for sign in signs])

    def test_places_of_long_signs(self):
        self.assertEqual(places("<==a!=b"), [(1, 1), (1, 3), (1, 4), (1, 5), (1, 7)])

    def test_a_blank_parts_a_sign(self):
        self.assertEqual(parts("= ="), [("sign", "="), ("sign", "=")])
        self.assertEqual(parts("<\n="), [("sign", "<"), ("sign", "=")])
        self.assertEqual(tokens("! ="), (("error", "", 1, 1),))


class Errors(unittest.TestCase):
    def test_each_character_that_begins_no_token(self):
        known = set("abcdefghijklmnopqrstuvwxyz0123456789(){}[],;=<+-*/ ")
        for code in range(ord(" "), ord("~") + 1):
            character = chr(code)
            if character not in known:
                with self.subTest(character):
                    self.assertEqual(tokens(character), (("error", "", 1, 1),))
                    wanted = (("sign", "+", 1, 1), ("error", "", 1, 2))
                    self.assertEqual(tokens("+" + character), wanted)

    def test_a_lone_exclamation_mark(self):
        self.assertEqual(tokens("a !b"), (("word", "a", 1, 1), ("error", "", 1, 3)))
        self.assertEqual(tokens("!!="), (("error", "", 1, 1),))

    def test_an_error_ends_the_tuple(self):
        self.assertEqual(tokens("? a b"), (("error", "", 1, 1),))
        self.assertEqual(tokens("a 01 ? b"), (("word", "a", 1, 1), ("error", "", 1, 3)))
        self.assertEqual(tokens("a\n\n  @@"), (("word", "a", 1, 1), ("error", "", 3, 3)))

    def test_nothing_behind_a_longest_word_is_lost(self):
        self.assertEqual(tokens("abcdefghijkl+"), (("word", "abcdefghijkl", 1, 1), ("sign", "+", 1, 13)))


class Separation(unittest.TestCase):
    def test_texts_without_tokens(self):
        for text in ("", " ", "\n", "   \n \n\n"):
            with self.subTest(text):
                self.assertEqual(tokens(text), ())

    def test_nothing_between_tokens(self):
        wanted = (
            ("word", "x", 1, 1),
            ("sign", "=", 1, 2),
            ("sign", "(", 1, 3),
            ("sign", "-", 1, 4),
            ("number", 5, 1, 5),
            ("sign", "+", 1, 6),
            ("word", "y", 1, 7),
            ("sign", ")", 1, 8),
            ("sign", ";", 1, 9),
        )
        self.assertEqual(tokens("x=(-5+y);"), wanted)

    def test_blanks_and_newlines_between_tokens(self):
        wanted = (
            ("word", "ask", 1, 3),
            ("word", "x", 2, 1),
            ("sign", ";", 4, 2),
            ("number", 7, 4, 4),
        )
        self.assertEqual(tokens("  ask \nx\n\n ; 7 \n"), wanted)

    def test_a_newline_ends_a_word_and_a_number(self):
        self.assertEqual(tokens("ab\ncd"), (("word", "ab", 1, 1), ("word", "cd", 2, 1)))
        self.assertEqual(tokens("1\n0"), (("number", 1, 1, 1), ("number", 0, 2, 1)))

    def test_the_result_is_a_tuple_of_tuples(self):
        found = tokens("a 1 + ?")
        self.assertIs(type(found), tuple)
        for token in found:
            self.assertIs(type(token), tuple)
            self.assertEqual([type(part) for part in token[2:]], [int, int])

    def test_many_tokens(self):
        found = tokens("x\n" * 1500)
        self.assertEqual(len(found), 1500)
        self.assertEqual(found[-1], ("word", "x", 1500, 1))


if __name__ == "__main__":
    unittest.main()
