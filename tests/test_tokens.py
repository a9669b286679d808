"""Tests of the tokens (points 1.1 to 1.5)."""

import string
import unittest

from wholepackets.errors import TextError
from wholepackets.tokens import is_reserved, tokenize

WORDS = (
    "accept action add apply control default drop else emit exact extract go header if key mask"
    " meta not packet parser prefix program reject remove select send size state table use valid"
).split()
SIGNS = "{ } ( ) : ; , . = == < + - & | ^ ->".split()


def plain(text):
    """Return the kinds and values of the tokens of a text, without its end."""
    return [(kind, value) for kind, value, _ in tokenize(text)[:-1]]


class TokensCase(unittest.TestCase):
    def assert_fails(self, text, line=1):
        with self.assertRaises(TextError, msg=repr(text[:40])) as caught:
            tokenize(text)
        self.assertEqual(caught.exception.line, line, msg=repr(text[:40]))


class SourceTest(TokensCase):
    """Point 1.1."""

    def test_empty_text(self):
        self.assertEqual(tokenize(""), [("end", "", 1)])

    def test_spaces_and_newlines_separate(self):
        expected = [("name", "a", 2), ("name", "b", 2), ("number", 7, 4), ("end", "", 5)]
        self.assertEqual(tokenize("\n  a   b \n\n7\n"), expected)

    def test_only_separators(self):
        self.assertEqual(tokenize("  \n \n\n"), [("end", "", 4)])
        self.assertEqual(tokenize("   "), [("end", "", 1)])

    def test_space_splits_a_sign_and_a_run(self):
        self.assertEqual(plain("= ="), [("sign", "="), ("sign", "=")])
        self.assertEqual(plain("0 x1"), [("number", 0), ("name", "x1")])
        self.assertEqual(plain("=\n="), [("sign", "="), ("sign", "=")])

    def test_comment_between_tokens(self):
        expected = [("name", "a", 1), ("name", "c", 2), ("end", "", 2)]
        self.assertEqual(tokenize("a # b { 07 #x\nc"), expected)

    def test_comment_directly_behind_a_token(self):
        self.assertEqual(tokenize("a#b\n"), [("name", "a", 1), ("end", "", 2)])
        self.assertEqual(tokenize("7#8"), [("number", 7, 1), ("end", "", 1)])
        self.assertEqual(tokenize("-#>"), [("sign", "-", 1), ("end", "", 1)])

    def test_comment_at_the_end(self):
        self.assertEqual(tokenize("a # b"), [("name", "a", 1), ("end", "", 1)])
        self.assertEqual(tokenize("a # b\n"), [("name", "a", 1), ("end", "", 2)])
        self.assertEqual(tokenize("#"), [("end", "", 1)])
        self.assertEqual(tokenize("\n#"), [("end", "", 2)])

    def test_comment_ends_before_the_newline(self):
        expected = [("name", "b", 3), ("end", "", 3)]
        self.assertEqual(tokenize("# one\n## two\nb"), expected)

    def test_most_lines(self):
        tokens = tokenize("\n".join(["a b;"] * 8000))
        self.assertEqual(len(tokens), 24001)
        self.assertEqual(tokens[-2:], [("sign", ";", 8000), ("end", "", 8000)])
        self.assertEqual(tokenize("a;\n" * 9000)[-1], ("end", "", 9001))

    def test_most_characters(self):
        self.assertEqual(len(tokenize("a;" * 32768)), 65537)
        self.assertEqual(tokenize("#" * 65536), [("end", "", 1)])
        self.assertEqual(tokenize(" " * 65535 + "9"), [("number", 9, 1), ("end", "", 1)])
        self.assertEqual(len(tokenize("a " * 40000)), 40001)


class WordsTest(TokensCase):
    """Point 1.2."""

    def test_reserved_words(self):
        self.assertEqual(len(WORDS), 31)
        for word in WORDS:
            self.assertEqual(tokenize(word), [("word", word, 1), ("end", "", 1)])
            self.assertIs(is_reserved(word), True)

    def test_like_reserved_words(self):
        for word in WORDS:
            for name in (word + "s", word + "_", word + "1", "x" + word, word.upper(), word[:-1]):
                if name in WORDS:
                    continue
                self.assertEqual(tokenize(name)[0], ("name", name, 1))
                self.assertIs(is_reserved(name), False)

    def test_other_strings_are_not_reserved(self):
        for name in ("port", "start", "end", "meaning", "", "7", "{", " if", "if "):
            self.assertIs(is_reserved(name), False)

    def test_names_of_one_character(self):
        for name in string.ascii_letters:
            self.assertEqual(tokenize(name), [("name", name, 1), ("end", "", 1)])

    def test_names_of_every_character(self):
        for char in string.ascii_letters + string.digits + "_":
            name = "q" + char + "q"
            self.assertEqual(tokenize(name), [("name", name, 1), ("end", "", 1)])

    def test_longest_names(self):
        for name in ("a" * 16, "Z123456789_bcdef", "a" + "_" * 15, "program_program_"):
            self.assertEqual(tokenize(name), [("name", name, 1), ("end", "", 1)])


class NumbersAndSignsTest(TokensCase):
    """Point 1.3."""

    def test_decimal(self):
        for number in (0, 1, 9, 10, 907, 1000000000, 4294967294, 4294967295):
            self.assertEqual(tokenize(str(number)), [("number", number, 1), ("end", "", 1)])

    def test_every_digit(self):
        self.assertEqual(plain("1234567890 2 3 4 5 6 7 8 9")[0], ("number", 1234567890))
        for digit in range(1, 10):
            self.assertEqual(plain(str(digit)), [("number", digit)])
            self.assertEqual(plain(f"3{digit}0"), [("number", 300 + 10 * digit)])

    def test_too_great(self):
        for text in ("4294967296", "4294967300", "5000000000", "9999999999", "10000000000"):
            self.assert_fails(text)
        self.assert_fails("1" * 5000)
        self.assert_fails("9" * 65536)

    def test_hexadecimal(self):
        expected = {
            "0x0": 0, "0x7": 7, "0xf": 15, "0x00000000": 0, "0xffffffff": 4294967295,
            "0x0000000a": 10, "0x12345678": 0x12345678, "0x9abcdef0": 0x9ABCDEF0, "0x80": 128,
        }
        for text, number in expected.items():
            self.assertEqual(tokenize(text), [("number", number, 1), ("end", "", 1)])

    def test_wrong_hexadecimal(self):
        for text in ("0x", "0x ", "0x123456789", "0x000000000", "0xA", "0xaF", "0X1", "0xg", "0x_1"):
            self.assert_fails(text)
        for text in ("0x1_2", "0x0x1", "0x12345678a", "1x1", "00x1", "0x-1"):
            self.assert_fails(text)
        self.assert_fails("0x" + "0" * 65000)

    def test_leading_zero(self):
        for text in ("00", "07", "01", "0000000001", "0_"):
            self.assert_fails(text)

    def test_letter_behind_a_number(self):
        for text in ("7a", "0a", "7_", "12x", "1e5", "1_000", "9Z"):
            self.assert_fails(text)

    def test_number_and_sign(self):
        self.assertEqual(plain("-7"), [("sign", "-"), ("number", 7)])
        self.assertEqual(plain("7.8"), [("number", 7), ("sign", "."), ("number", 8)])
        self.assertEqual(plain("0x1+0"), [("number", 1), ("sign", "+"), ("number", 0)])

    def test_each_sign(self):
        self.assertEqual(len(SIGNS), 17)
        for sign in SIGNS:
            self.assertEqual(tokenize(sign), [("sign", sign, 1), ("end", "", 1)])
            self.assertEqual(plain("a" + sign + "b"), [("name", "a"), ("sign", sign), ("name", "b")])

    def test_longest_sign_is_taken(self):
        expected = {
            "==": ["=="], "===": ["==", "="], "====": ["==", "=="], "->": ["->"], "-->": ["-", "->"],
            "->->": ["->", "->"], "--": ["-", "-"], "=->": ["=", "->"], "-==": ["-", "=="],
            "<=": ["<", "="], "<==": ["<", "=="], "<-": ["<", "-"], "){": [")", "{"], "{}": ["{", "}"],
            "&&": ["&", "&"], "||": ["|", "|"], "++": ["+", "+"], "..": [".", "."], "=": ["="], "-": ["-"],
        }
        for text, signs in expected.items():
            self.assertEqual(plain(text), [("sign", sign) for sign in signs])

    def test_all_pairs_of_signs(self):
        for first in SIGNS:
            for second in SIGNS:
                if first + second != "==":
                    expected = [("sign", first), ("sign", second)]
                    if first == "=" and second == "==":
                        expected.reverse()
                    self.assertEqual(plain(first + second), expected)


class FormTest(TokensCase):
    """Point 1.4."""

    def test_example(self):
        expected = [
            ("name", "a", 1), ("sign", ".", 1), ("name", "b", 1), ("sign", "->", 1),
            ("number", 7, 1), ("end", "", 1),
        ]
        self.assertEqual(tokenize("a.b->7 # x"), expected)

    def test_kinds_values_and_lines(self):
        expected = [
            ("word", "if", 1), ("name", "x", 2), ("sign", "==", 2), ("number", 31, 4),
            ("sign", "{", 4), ("end", "", 5),
        ]
        tokens = tokenize("if\nx== # c\n#\n0x1f{\n")
        self.assertEqual(tokens, expected)
        self.assertTrue(all(type(token) is tuple for token in tokens))
        self.assertIs(type(tokens[3][1]), int)

    def test_line_of_the_end(self):
        for text in ("", "a", "a\n", "\n\n", "a\n\nb", "a # x\n# y\n# z", "#\n\n"):
            self.assertEqual(tokenize(text)[-1], ("end", "", text.count("\n") + 1))

    def test_one_end(self):
        self.assertEqual([token[0] for token in tokenize("a end b")], ["name", "name", "name", "end"])


class ErrorsTest(TokensCase):
    """Point 1.5."""

    def test_example(self):
        self.assert_fails("go 07")

    def test_signs_that_do_not_exist(self):
        for char in "!\"$'*/>?@[\\]`~_":
            self.assert_fails(char)
            self.assert_fails("a\n{ " + char + "\n}", 2)
        for text in (">=", "=>", "!=", "*", "> -", ">-", "\t", "\r", "_a", "_1", "a-> >"):
            self.assert_fails(text)

    def test_long_runs(self):
        for run in ("a" * 17, "program_program_p", "a" + "1" * 16, "a" * 60000):
            self.assert_fails(run)
            self.assert_fails("b\n\n  " + run + ";", 3)

    def test_line_of_a_wrong_number(self):
        for number in ("07", "4294967296", "0x", "0xA", "0x123456789", "7a"):
            self.assert_fails("a\n# b\n\n" + number, 4)
            self.assert_fails("a." + number + "\nb\n")

    def test_first_part_decides(self):
        self.assert_fails("a\n! b\n07\n" + "c" * 17, 2)
        self.assert_fails("a\n07 b\n!", 2)
        self.assert_fails("\n\n" + "c" * 17 + "\n!", 3)

    def test_inside_a_comment(self):
        for part in ("!", "07", "4294967296", "c" * 17, "_", "7a", "\"", "0x"):
            expected = [("name", "a", 1), ("name", "b", 2), ("end", "", 2)]
            self.assertEqual(tokenize("a # " + part + "\nb"), expected)
            self.assertEqual(tokenize("a #" + part), [("name", "a", 1), ("end", "", 1)])
            self.assert_fails("a # " + part + "\n" + part, 2)


if __name__ == "__main__":
    unittest.main()
