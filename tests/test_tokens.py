"""Texts as tokens (points 1.1 to 1.4)."""

import unittest

from sameclock.errors import BadCharacter, BadNumber
from sameclock.tokens import KEYWORDS, tokens

SIGNS = "{ } ( ) [ ] , ; = + - * & | ^ ! ? : < <= << >> ==".split()


def pairs(text):
    """The kinds and texts of the tokens, without the end."""
    found = tokens(text)
    assert found[-1][:2] == ("end", "")
    return [token[:2] for token in found[:-1]]


def places(text):
    return [token[1:] for token in tokens(text)]


class TestTokens(unittest.TestCase):
    def refused(self, error, text, row, column):
        with self.assertRaises(error) as caught:
            tokens(text)
        self.assertIs(type(caught.exception), error)
        self.assertEqual((caught.exception.row, caught.exception.column), (row, column), text)

    def test_keywords(self):
        self.assertEqual(KEYWORDS, ("public", "secret", "array", "fn", "main", "return", "if", "else", "for", "to",
                                    "max", "out", "div", "mod"))
        for word in KEYWORDS:
            self.assertEqual(tokens(word), [("keyword", word, 1, 1), ("end", "", 1, len(word) + 1)])

    def test_kind_of_values(self):
        found = tokens("a 1")
        self.assertIs(type(found), list)
        for token in found:
            self.assertIs(type(token), tuple)
            self.assertEqual([type(part) for part in token], [str, str, int, int])

    def test_end(self):
        self.assertEqual(tokens(""), [("end", "", 1, 1)])
        self.assertEqual(tokens("   "), [("end", "", 1, 4)])
        self.assertEqual(tokens("\n\n"), [("end", "", 3, 1)])
        self.assertEqual(tokens("\n  "), [("end", "", 2, 3)])
        self.assertEqual(tokens("ab"), [("name", "ab", 1, 1), ("end", "", 1, 3)])

    def test_names(self):
        for name in ("a", "Z", "x_", "a1", "A_b_2", "q" * 100):
            self.assertEqual(tokens(name), [("name", name, 1, 1), ("end", "", 1, len(name) + 1)])

    def test_names_that_begin_like_keywords(self):
        for word in KEYWORDS:
            for name in (word + "s", word + "1", word + "_", word.upper(), "x" + word, word[:-1] + word):
                self.assertEqual(pairs(name), [("name", name)])
        self.assertEqual(pairs("fo r"), [("name", "fo"), ("name", "r")])

    def test_numbers(self):
        for number in ("0", "7", "10", "4294967295", "999999999", "1000000000"):
            self.assertEqual(tokens(number), [("number", number, 1, 1), ("end", "", 1, len(number) + 1)])

    def test_wrong_numbers(self):
        for number in ("4294967296", "9999999999", "10000000000", "00", "01", "007", "0x1", "1a", "1_", "1_000",
                       "0a", "4294967295x", "1" * 5000, "0" * 50):
            self.refused(BadNumber, number, 1, 1)
            self.refused(BadNumber, "a\n +" + number + " ", 2, 3)

    def test_signs(self):
        for sign in SIGNS:
            self.assertEqual(tokens(sign), [("sign", sign, 1, 1), ("end", "", 1, len(sign) + 1)])

    def test_longer_sign_is_taken(self):
        for text, signs in (
            ("<<=", ["<<", "="]), ("<==", ["<=", "="]), ("===", ["==", "="]), ("====", ["==", "=="]),
            ("!=", ["!", "="]), ("!==", ["!", "=="]), ("<<<", ["<<", "<"]), ("< <", ["<", "<"]), ("= =", ["=", "="]),
            ("<>>", ["<", ">>"]), (">>>>", [">>", ">>"]), (">>=", [">>", "="]), (">><=", [">>", "<="]),
            ("=<", ["=", "<"]),
        ):
            self.assertEqual(pairs(text), [("sign", sign) for sign in signs], text)

    def test_all_pairs_of_signs_apart(self):
        for one in SIGNS:
            for two in SIGNS:
                self.assertEqual(pairs(one + " " + two), [("sign", one), ("sign", two)])
                self.assertEqual(pairs(one + "\n" + two), [("sign", one), ("sign", two)])

    def test_places(self):
        self.assertEqual(places("a = b1;\n  out 3;\n\n}"), [
            ("a", 1, 1), ("=", 1, 3), ("b1", 1, 5), (";", 1, 7), ("out", 2, 3), ("3", 2, 7), (";", 2, 8), ("}", 4, 1),
            ("", 4, 2)])
        self.assertEqual(places("a<<b"), [("a", 1, 1), ("<<", 1, 2), ("b", 1, 4), ("", 1, 5)])

    def test_no_space_needed(self):
        self.assertEqual([text for _, text in pairs("if(x)[1]{2}a,b;c!d?e:f")],
                         "if ( x ) [ 1 ] { 2 } a , b ; c ! d ? e : f".split())

    def test_comments(self):
        self.assertEqual(places("a # b 00 > ~\nc"), [("a", 1, 1), ("c", 2, 1), ("", 2, 2)])
        self.assertEqual(places("#\n#x\n  y"), [("y", 3, 3), ("", 3, 4)])
        self.assertEqual(places("x# comment"), [("x", 1, 1), ("", 1, 11)])
        self.assertEqual(places("#"), [("", 1, 2)])
        self.assertEqual(places("# one # two\n1"), [("1", 2, 1), ("", 2, 2)])
        self.assertEqual(places("a#\tno \u00e9 examination\n"), [("a", 1, 1), ("", 2, 1)])

    def test_bad_characters(self):
        for char in "~`@$%_'\"\\./>\t\r\u00e9\u00b2\u0661":
            self.refused(BadCharacter, char, 1, 1)
            self.refused(BadCharacter, "ab\n 1 " + char, 2, 4)
            self.refused(BadCharacter, "x+" + char + "y", 1, 3)

    def test_bad_within_words(self):
        self.refused(BadCharacter, "caf\u00e9", 1, 4)
        self.refused(BadCharacter, "1\u00b2", 1, 2)
        self.refused(BadCharacter, "_x", 1, 1)

    def test_greater_alone(self):
        self.refused(BadCharacter, "a > b", 1, 3)
        self.refused(BadCharacter, "a >= b", 1, 3)
        self.refused(BadCharacter, "a >>> b", 1, 5)
        self.refused(BadCharacter, "a>\n>b", 1, 2)

    def test_first_error_from_the_left(self):
        self.refused(BadNumber, "a 01 $", 1, 3)
        self.refused(BadCharacter, "a $ 01", 1, 3)
        self.refused(BadCharacter, "# 01 $\n~ 01", 2, 1)

    def test_result_is_new(self):
        tokens("a").append(1)
        self.assertEqual(len(tokens("a")), 2)


if __name__ == "__main__":
    unittest.main()
