"""The tokens of "Texts": what is one, and what is none."""

import unittest

from thinbits.errors import WrongText
from thinbits.tokens import tokens_of


def tokens(text):
    return tokens_of(list(text.encode("latin-1")))


def held(text):
    return [value for sort, value in tokens(text)]


class Words(unittest.TestCase):
    def test_ordinary(self):
        self.assertEqual(tokens("a Bc d-1 E2-f"), [("word", "a"), ("word", "Bc"), ("word", "d-1"), ("word", "E2-f")])

    def test_every_letter_and_digit(self):
        word = "aABCDEFGHIJKLMNOPQRSTUVWXYZ-abcdefghijklmnopqrstuvwxyz"
        self.assertEqual(tokens(word), [("word", word)])
        self.assertEqual(tokens("a0123456789"), [("word", "a0123456789")])

    def test_length(self):
        self.assertEqual(held("a" * 64), ["a" * 64])
        for wrong in ("a" * 65, "a" * 63 + "-b", "a" * 65536):
            with self.assertRaises(WrongText):
                tokens(wrong)

    def test_none_ends_with_a_dash(self):
        for wrong in ("a-", "a--", "a- b", "a-- b", "a-{", "a-\n"):
            with self.assertRaises(WrongText):
                tokens(wrong)

    def test_goes_on_as_long_as_it_can(self):
        self.assertEqual(held("a--b"), ["a--b"])
        self.assertEqual(held("a---b c"), ["a---b", "c"])
        self.assertEqual(held("BOOLEANa"), ["BOOLEANa"])

    def test_other_bytes_end_it(self):
        for wrong in ("a_b", "a.b", "a/b", "a@b", "a[b", "a`b", "a\xe9b", "_a", "\xc0"):
            with self.assertRaises(WrongText):
                tokens(wrong)


class Numbers(unittest.TestCase):
    def test_ordinary(self):
        self.assertEqual(tokens("0 7 10 -1 -250"), [("number", n) for n in (0, 7, 10, -1, -250)])

    def test_zero_in_front(self):
        for wrong in ("00", "01", "-01", "-0", "-00", "000000000000000000001"):
            with self.assertRaises(WrongText):
                tokens(wrong)

    def test_digits(self):
        self.assertEqual(held("9" * 20), [10 ** 20 - 1])
        self.assertEqual(held("-" + "9" * 20), [1 - 10 ** 20])
        for wrong in ("1" * 21, "-" + "1" * 21, "1" * 65536):
            with self.assertRaises(WrongText):
                tokens(wrong)

    def test_dash_alone(self):
        for wrong in ("-", "- 1", "-a", "1-", "1- ", "+1"):
            with self.assertRaises(WrongText):
                tokens(wrong)

    def test_no_blank_is_needed(self):
        self.assertEqual(held("1a"), [1, "a"])
        self.assertEqual(held("1-2"), [1, -2])
        self.assertEqual(held("1..2"), [1, "..", 2])
        self.assertEqual(held("1..-2"), [1, "..", -2])

    def test_remark_behind_a_number(self):
        self.assertEqual(held("1--2\n3"), [1, 3])
        self.assertEqual(held("1..--2\n3"), [1, "..", 3])


class Strings(unittest.TestCase):
    def test_ordinary(self):
        self.assertEqual(tokens("'01'B '0AF4'H"), [("bits", "01"), ("octets", "0AF4")])
        self.assertEqual(tokens("'01'H"), [("octets", "01")])
        self.assertEqual(tokens("'0123456789ABCDEF'H"), [("octets", "0123456789ABCDEF")])

    def test_nothing_between(self):
        self.assertEqual(tokens("''B ''H"), [("bits", ""), ("octets", "")])

    def test_odd(self):
        self.assertEqual(held("'1'B'011'B"), ["1", "011"])
        for wrong in ("'1'H", "'ABC'H"):
            with self.assertRaises(WrongText):
                tokens(wrong)

    def test_wrong_digits(self):
        for wrong in ("'2'B", "'A'B", "'ab'H", "'aB'H", "'0G'H", "'0 1'B", "'0\n1'B", " ' '", "'--'B", "'0?'H"):
            with self.assertRaises(WrongText):
                tokens(wrong)

    def test_wrong_ends(self):
        for wrong in ("'", "''", "'01", "'01'", "'01' B", "'01'b", "'01'h", "'0101'C", "'B", "'01B", "'B'"):
            with self.assertRaises(WrongText):
                tokens(wrong)


class Signs(unittest.TestCase):
    def test_all(self):
        signs = ["::=", "...", "..", "{", "}", "(", ")", ",", ":"]
        self.assertEqual(tokens(" ".join(signs)), [("sign", sign) for sign in signs])

    def test_longest(self):
        self.assertEqual(held("....."), ["...", ".."])
        self.assertEqual(held("::"), [":", ":"])
        self.assertEqual(held(":::="), [":", "::="])
        self.assertEqual(held("......"), ["...", "..."])
        for wrong in (".", "....", ": :=", "=", ":="):
            with self.assertRaises(WrongText):
                tokens(wrong)

    def test_bytes_that_begin_none(self):
        begins = set(b"{}(),:") | set(range(48, 58)) | set(range(65, 91)) | set(range(97, 123))
        blanks = {9, 10, 13, 32}
        for byte in range(256):
            if byte in begins:
                self.assertEqual(len(tokens_of([byte])), 1, byte)
            elif byte in blanks:
                self.assertEqual(tokens_of([byte]), [], byte)
            else:
                with self.assertRaises(WrongText, msg=byte):
                    tokens_of([byte])

    def test_every_byte_that_stands_in_a_token(self):
        for byte in range(33, 127):
            if chr(byte).isalnum():
                self.assertEqual(tokens_of([97, byte]), [("word", "a" + chr(byte))])


class Between(unittest.TestCase):
    def test_blanks(self):
        for blank in ("\t", "\n", "\r", " ", " \t\r\n "):
            self.assertEqual(held(blank + "a" + blank + "b" + blank), ["a", "b"])
        for wrong in ("\x0b", "\x0c", "\x00", "\xa0", "\x85"):
            with self.assertRaises(WrongText):
                tokens("a" + wrong + "b")

    def test_none_needed(self):
        self.assertEqual(held("A::={a,b}"), ["A", "::=", "{", "a", ",", "b", "}"])

    def test_remark_to_the_line_end(self):
        self.assertEqual(held("a -- b -- c\nd"), ["a", "d"])
        self.assertEqual(held("a --\nb"), ["a", "b"])
        self.assertEqual(held("-- a\n-- b\nc"), ["c"])

    def test_only_byte_10_ends_it(self):
        self.assertEqual(held("a -- b\rc\td"), ["a"])

    def test_remark_to_the_text_end(self):
        self.assertEqual(held("a --"), ["a"])
        self.assertEqual(held("a -- '\x00\xff;"), ["a"])
        self.assertEqual(held("--"), [])

    def test_three_dashes(self):
        self.assertEqual(held("a ---b\nc"), ["a", "c"])
        self.assertEqual(held("{--b\n}"), ["{", "}"])

    def test_nothing(self):
        self.assertEqual(tokens(""), [])


if __name__ == "__main__":
    unittest.main()
