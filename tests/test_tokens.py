"""Points 1.1 to 1.4: characters, rows and columns, tokens, comments and their errors."""

import unittest

from sheetwatch.errors import BadCharacter, BadNumber, BadQuote
from sheetwatch.tokens import KEYWORDS, tokens

ALL_KEYWORDS = (
    "event def watch number word implies or and since until not some all before next once held soon kept "
    "count sum least most of true false"
)
SIGNS = ["(", ")", "[", "]", ",", ";", ".", "*", "=", "<", "<=", "+", "-"]
PRINTED = [chr(code) for code in range(32, 127)]
LETTERS_AND_DIGITS = [character for character in PRINTED if character.isalnum()]
LARGEST = "1000000000000"


def kinds_and_texts(text):
    return [token[:2] for token in tokens(text)]


class TokensCase(unittest.TestCase):
    def check_error(self, error, text, row, column):
        with self.assertRaises(error) as caught:
            tokens(text)
        self.assertIs(caught.exception.__class__, error)
        self.assertEqual((caught.exception.row, caught.exception.column), (row, column), text)


class PlacesTest(TokensCase):
    """Point 1.1."""

    def test_rows_and_columns_count_from_1(self):
        self.assertEqual(tokens("ab <= 12\n  \"x y\",\n\n;"), [
            ("name", "ab", 1, 1),
            ("sign", "<=", 1, 4),
            ("number", "12", 1, 7),
            ("text", "x y", 2, 3),
            ("sign", ",", 2, 8),
            ("sign", ";", 4, 1),
            ("end", "", 4, 2),
        ])

    def test_end_of_an_empty_text(self):
        self.assertEqual(tokens(""), [("end", "", 1, 1)])

    def test_end_behind_spaces_newlines_and_comments(self):
        self.assertEqual(tokens("   "), [("end", "", 1, 4)])
        self.assertEqual(tokens("\n"), [("end", "", 2, 1)])
        self.assertEqual(tokens("a\n\n  \n"), [("name", "a", 1, 1), ("end", "", 4, 1)])
        self.assertEqual(tokens("\n# abc"), [("end", "", 2, 6)])
        self.assertEqual(tokens("# abc\n"), [("end", "", 2, 1)])
        self.assertEqual(tokens("a # b\n  #"), [("name", "a", 1, 1), ("end", "", 2, 4)])

    def test_every_allowed_character_in_a_text(self):
        for character in PRINTED:
            if character in "%\\":
                self.check_error(BadQuote, f'"{character}"', 1, 1)
            elif character != '"':
                self.assertEqual(kinds_and_texts(f'"{character}"')[0], ("text", character))


class KindsTest(TokensCase):
    """Point 1.2."""

    def test_keywords(self):
        self.assertEqual(KEYWORDS, tuple(ALL_KEYWORDS.split()))
        for word in ALL_KEYWORDS.split():
            self.assertEqual(tokens(word), [("keyword", word, 1, 1), ("end", "", 1, len(word) + 1)])

    def test_names(self):
        for name in ("a", "Z", "a1", "a_", "x_1_Y", "b__", "aZ09_"):
            self.assertEqual(kinds_and_texts(name), [("name", name), ("end", "")])

    def test_names_that_begin_like_keywords(self):
        for word in ALL_KEYWORDS.split():
            for name in (f"{word}s", f"{word}_", f"{word}1", f"x{word}", word.capitalize(), word.upper(), word[:-1]):
                if name not in ALL_KEYWORDS.split():
                    self.assertEqual(kinds_and_texts(name), [("name", name), ("end", "")])

    def test_numbers(self):
        for number in ("0", "1", "9", "10", "101", "999999999999", LARGEST):
            self.assertEqual(kinds_and_texts(number), [("number", number), ("end", "")])

    def test_texts(self):
        for text in ("", " ", "abc", "a # b", "and", "(", "12", "!$&'/:>?@^`{|}~", "x" * 40):
            self.assertEqual(tokens(f'"{text}"'), [("text", text, 1, 1), ("end", "", 1, len(text) + 3)])

    def test_texts_side_by_side(self):
        self.assertEqual(kinds_and_texts('"a""b" "c"'), [("text", "a"), ("text", "b"), ("text", "c"), ("end", "")])

    def test_signs(self):
        for sign in SIGNS:
            self.assertEqual(tokens(sign), [("sign", sign, 1, 1), ("end", "", 1, len(sign) + 1)])

    def test_result_is_a_new_list_of_tuples(self):
        first = tokens("a b")
        self.assertIs(first.__class__, list)
        self.assertTrue(all(token.__class__ is tuple for token in first))
        first.clear()
        self.assertEqual(len(tokens("a b")), 3)


class SeparationTest(TokensCase):
    """Point 1.3."""

    def test_tokens_need_no_space_beside_signs(self):
        self.assertEqual([text for _, text in kinds_and_texts('p(x,1)and"a"<=y-2;')], [
            "p", "(", "x", ",", "1", ")", "and", "a", "<=", "y", "-", "2", ";", "",
        ])

    def test_spaces_and_newlines_separate(self):
        self.assertEqual(tokens("a b\nc"), [
            ("name", "a", 1, 1), ("name", "b", 1, 3), ("name", "c", 2, 1), ("end", "", 2, 2),
        ])

    def test_the_longer_sign_is_taken(self):
        for text, signs in (
            ("<=", ["<="]), ("< =", ["<", "="]), ("<\n=", ["<", "="]), ("=<", ["=", "<"]), ("<<=", ["<", "<="]),
            ("<==", ["<=", "="]), ("=<=", ["=", "<="]), ("<<", ["<", "<"]), ("==", ["=", "="]), ("<#=\n=", ["<", "="]),
        ):
            self.assertEqual([word for _, word in kinds_and_texts(text)], [*signs, ""], text)

    def test_comments(self):
        self.assertEqual(tokens("a# b\nc"), [("name", "a", 1, 1), ("name", "c", 2, 1), ("end", "", 2, 2)])
        self.assertEqual(tokens("12#3"), [("number", "12", 1, 1), ("end", "", 1, 5)])
        self.assertEqual(tokens("a ## # b"), [("name", "a", 1, 1), ("end", "", 1, 9)])
        self.assertEqual(tokens("#"), [("end", "", 1, 2)])

    def test_what_a_comment_holds_is_not_examined(self):
        self.assertEqual(tokens("# 100% \\ \t\r\x00 \u00e9\u2028 \" 007 1a _\nb"), [
            ("name", "b", 2, 1), ("end", "", 2, 2),
        ])
        self.assertEqual(tokens("#%\x0b\x0c\x1c\x85"), [("end", "", 1, 7)])

    def test_no_comment_begins_in_a_text(self):
        self.assertEqual(kinds_and_texts('"#" x'), [("text", "#"), ("name", "x"), ("end", "")])

    def test_only_plain_letters_and_digits_extend_a_name(self):
        self.check_error(BadCharacter, "ab\u00e9", 1, 3)
        self.check_error(BadCharacter, "ab\u00b2", 1, 3)
        self.check_error(BadCharacter, "12\u0663", 1, 3)
        self.check_error(BadCharacter, "12\u00e9", 1, 3)


class TokenErrorsTest(TokensCase):
    """Point 1.4."""

    def test_bad_numbers(self):
        for number in (
            "00", "01", "007", "1000000000001", "0999999999999", "9999999999999", "10000000000000", "1" + "0" * 9000,
            "1a", "1_", "1_000", "0x", "12and", "3x4",
        ):
            self.check_error(BadNumber, number, 1, 1)
            self.check_error(BadNumber, f"a,\n ( {number})", 2, 4)

    def test_bad_quotes(self):
        for text in (
            '"', '"abc', '"abc\n"', '"a\tb"', '"a%b"', '"\\"', '"\u00e9"', '"a\rb"', '"\x7f"', '"%',
            '"' + "x" * 41 + '"', '"' + "x" * 40, '"' + "x" * 41, '"a # b', '"' + "x" * 40 + "\n" + '"',
            '"' + "x" * 100 + '" "',
        ):
            self.check_error(BadQuote, text, 1, 1)
            self.check_error(BadQuote, f"a\n\n b {text}", 3, 4)
        self.check_error(BadQuote, '"a" "', 1, 5)
        self.check_error(BadQuote, '"a""', 1, 4)
        self.check_error(BadQuote, '"a" b"\n"', 1, 6)

    def test_bad_characters(self):
        for character in (*PRINTED, "\t", "\r", "\x00", "\x0b", "\x7f", "\u00e9", "\u00b2", "\u0663", "\u2028"):
            if character not in (*LETTERS_AND_DIGITS, *SIGNS, " ", "#", '"'):
                self.check_error(BadCharacter, character, 1, 1)
                self.check_error(BadCharacter, f'a "b"\n  {character} c', 2, 3)
                self.check_error(BadCharacter, f"<{character}", 1, 2)

    def test_a_row_ends_only_at_a_newline(self):
        self.check_error(BadCharacter, "a\n# \r \x0b \x0c \u2028 \u0085\n  $", 3, 3)
        self.check_error(BadCharacter, "a;\r\nb;", 1, 3)

    def test_the_first_error_from_the_left(self):
        self.check_error(BadNumber, '01 $ "', 1, 1)
        self.check_error(BadCharacter, '$ 01 "', 1, 1)
        self.check_error(BadQuote, '"$ 01', 1, 1)
        self.check_error(BadCharacter, 'a $\n01', 1, 3)
        self.check_error(BadCharacter, "a 1$b\n 0a", 1, 4)
        self.check_error(BadQuote, '"a" "$" "%" 01', 1, 9)
        self.check_error(BadNumber, "# 00 $\n 00 $", 2, 2)
