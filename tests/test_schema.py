"""Promise 1: schema answers how many kinds a schema has, or -2; -1 of a text that is too long.

What is no schema is none to pack and tell either.
"""

import unittest

from packcase import PackCase
from thinbits.packing import schema

OWN_WORDS = ("BOOLEAN NULL INTEGER MIN MAX ENUMERATED BIT STRING OCTET SIZE SEQUENCE OPTIONAL OF CHOICE "
             "TRUE FALSE").split()


def asked(text):
    return schema(list(text.encode("latin-1")))


class SchemaCase(PackCase):
    def right(self, *texts, count=1):
        for text in texts:
            self.assertEqual(asked(text), [count], text[:200])

    def wrong(self, *texts):
        for text in texts:
            self.assertEqual(asked(text), [-2], text[:200])
            self.refused(-3, text, "A", "NULL")

    def right_kind(self, *kinds):
        """Each stands by itself, as a part, as a choice, within a SEQUENCE OF, and ahead of another one."""
        for kind in kinds:
            self.right(f"A ::= {kind}", f"A ::= SEQUENCE {{ x {kind} }}", f"A ::= CHOICE {{ x {kind}, y {kind} }}",
                       f"A ::= SEQUENCE OF {kind}", f"A ::= SEQUENCE {{ x {kind} OPTIONAL, ..., y {kind} }}")
            self.right(f"A ::= {kind} B ::= {kind}", count=2)

    def wrong_kind(self, *kinds):
        for kind in kinds:
            self.wrong(f"A ::= {kind}", f"A ::= SEQUENCE {{ x {kind} }}", f"A ::= CHOICE {{ x {kind}, y {kind} }}",
                       f"A ::= SEQUENCE OF {kind}", f"A ::= {kind} B ::= NULL")


class Ordinary(SchemaCase):
    def test_each_kind(self):
        self.right_kind(
            "BOOLEAN", "NULL", "INTEGER", "INTEGER (5)", "INTEGER (1..5)", "ENUMERATED { red, green }",
            "BIT STRING", "OCTET STRING", "BIT STRING (SIZE (3))", "OCTET STRING (SIZE (1..4))",
            "SEQUENCE { a BOOLEAN, b NULL OPTIONAL }", "SEQUENCE OF INTEGER", "SEQUENCE (SIZE (1..3)) OF NULL",
            "CHOICE { a NULL, b INTEGER }", "A")

    def test_a_whole_one(self):
        text = """-- a reading of a probe
        Reading ::= SEQUENCE {
          id INTEGER (0..65535), kind Kind, flags BIT STRING (SIZE (8)), note OCTET STRING (SIZE (0..20)) OPTIONAL,
          ..., -- since then
          where CHOICE { cell INTEGER (0..MAX), place SEQUENCE { x INTEGER, y INTEGER }, ..., none NULL } OPTIONAL
        }
        Kind ::= ENUMERATED { heat, rain, ..., wind }
        Readings ::= SEQUENCE (SIZE (1..MAX)) OF Reading
        """
        self.right(text, count=3)
        self.right(text.replace("\n", "\r\n"), count=3)

    def test_no_blanks_but_between_words(self):
        self.right("A::=SEQUENCE{a INTEGER(0..3),b BIT STRING(SIZE(1)),...,c NULL}B::=ENUMERATED{x,...,y}", count=2)

    def test_tokens_in_a_row_without_blanks(self):
        self.right("A::=INTEGER(1)B::=NULL", count=2)
        self.wrong("A ::= NULLB ::= NULL")


class Tokens(SchemaCase):
    def test_words(self):
        long_name = "x" * 64
        self.right(f"A ::= ENUMERATED {{ {long_name} }}", "T" * 64 + " ::= NULL", "A--b ::= A--b")
        self.wrong(f"A ::= ENUMERATED {{ {long_name}y }}", "T" * 65 + " ::= NULL",
                   f"A ::= SEQUENCE {{ {long_name}BOOLEAN }}")
        self.wrong("A- ::= NULL", "A ::= ENUMERATED { a- }", "A ::= NULL-", "A ::= NULL--", "A ::= NULL-- remark",
                   "A-- remark\n::= NULL", "A ::= ENUMERATED { a--\n}")

    def test_numbers(self):
        self.right_kind("INTEGER (0)", "INTEGER (-1..0)", "INTEGER (10)")
        self.wrong_kind("INTEGER (00)", "INTEGER (05)", "INTEGER (-0)", "INTEGER (-05..0)", "INTEGER (0..-0)",
                        "INTEGER (- 1)", "INTEGER (+1)", "INTEGER (-)", "INTEGER (1 2)", "INTEGER (1-2)",
                        "INTEGER (10000000000000000000)", "INTEGER (100000000000000000000)",
                        "BIT STRING (SIZE (01))", "BIT STRING (SIZE (-0))")

    def test_strings_stand_in_no_schema(self):
        for string in ("''B", "''H", "'01'B", "'AB'H", "'ABC'H", "'ab'H", "'"):
            self.wrong(f"A ::= {string}", f"A ::= NULL {string}", string, f"A ::= INTEGER ({string})")
            self.right(f"A ::= NULL -- {string}", f"-- {string}\nA ::= NULL")

    def test_signs(self):
        self.wrong("A : := NULL", "A :: = NULL", "A := NULL", "A : NULL", "A = NULL", "A ::== NULL", "A :::= NULL",
                   "A NULL", "A ::= ::= NULL")
        self.wrong_kind("INTEGER (1...5)", "INTEGER (1....5)", "INTEGER (1. .5)", "INTEGER (1.5)",
                        "ENUMERATED { a, .. }", "ENUMERATED { a, .... }", "ENUMERATED { a, .. . }",
                        "SEQUENCE { .. }", "CHOICE { a: NULL }")

    def test_blanks(self):
        for blank in ("\t", "\n", "\r", " "):
            self.right(blank + blank.join(["A", "::=", "BIT", "STRING", "(", "SIZE", "(", "1", "..", "2", ")", ")", ""]))
        for other in ("\0", "\x0b", "\x0c", "\x1f", "\x7f", "\x85", "\xa0"):
            self.wrong(f"A ::={other}NULL", f"A ::= NULL{other}")

    def test_remarks(self):
        self.right("A ::= --x\nNULL", "--x\nA ::= NULL", "A ::= NULL --x", "A ::= NULL --", "A--b ::= NULL",
                   "A ::= INTEGER (1--2\n..3--4\n)", "A ::= BIT --x\nSTRING",
                   "A --\n::=--\nNULL --\0\xff'\n", "A ::= NULL -- B ::= NULL -- C ::= NULL", "A ::= INTEGER (1)--")
        self.right("A ::= INTEGER (1)--x\nB ::= NULL", count=2)
        self.wrong("-- A ::= NULL", "A ::= -- NULL", "A ::= --x\rNULL", "A ::= NULL - - x", "A ::= NULL--x",
                   "A -- x -- ::= NULL")

    def test_bytes_that_begin_no_token(self):
        for byte in range(256):
            if byte in (9, 10, 13, 32):
                continue
            alone = list(b"A ::= NULL ") + [byte] + list(b" ")
            self.assertEqual(schema(alone), [-2], byte)
            self.assertEqual(schema(list(b"A ::= NULL --") + [byte]), [1], byte)


class Kinds(SchemaCase):
    def test_how_many(self):
        self.wrong("", " ", "-- nothing")
        self.right("A ::= NULL")
        many = [f"T{n} ::= T{n // 2} " for n in range(257)]
        self.right("".join(many[:255]), count=255)
        self.right("".join(many[:256]), count=256)
        self.wrong("".join(many))

    def test_a_name_twice(self):
        self.wrong("A ::= NULL A ::= NULL", "A ::= NULL B ::= NULL A ::= BOOLEAN")
        self.right("A ::= NULL Aa ::= NULL AA ::= NULL", count=3)

    def test_named_ones_are_there(self):
        self.right("A ::= B B ::= NULL", "A ::= NULL B ::= A", "A ::= SEQUENCE OF B B ::= NULL", count=2)
        self.wrong("A ::= B", "A ::= SEQUENCE { a B }", "A ::= SEQUENCE { a NULL, ..., b B }", "A ::= SEQUENCE OF B",
                   "A ::= CHOICE { a NULL, b B }", "A ::= CHOICE { a NULL, ..., b B }", "A ::= SEQUENCE { a B OPTIONAL }",
                   "A ::= B B ::= C", "A ::= a", "A ::= AA", "AA ::= A")

    def test_one_that_names_itself(self):
        self.right("A ::= A", "A ::= SEQUENCE { a A }", "A ::= CHOICE { a A }", "A ::= SEQUENCE OF A")
        self.right("A ::= B B ::= A", count=2)

    def test_own_words_are_no_names(self):
        for word in OWN_WORDS:
            self.wrong(f"{word} ::= NULL", f"A ::= NULL {word} ::= NULL", f"{word} ::= {word}",
                       f"A ::= ENUMERATED {{ {word} }}", f"A ::= SEQUENCE {{ {word} NULL }}")
            self.right(f"{word}x ::= {word}x", f"A ::= ENUMERATED {{ {word.lower()} }}")
        for word in ("BIT", "STRING", "OCTET", "MIN", "MAX", "SIZE", "OPTIONAL", "OF", "TRUE", "FALSE", "ENUMERATED",
                     "CHOICE", "SEQUENCE"):
            self.wrong(f"A ::= {word}", f"A ::= SEQUENCE {{ a {word} }}", f"A ::= SEQUENCE OF {word}")
        for word in ("SET", "REAL", "B", "H", "N", "T", "True", "Null", "DEFAULT"):
            self.right(f"{word} ::= {word}")

    def test_first_letters(self):
        self.wrong("a ::= NULL", "aA ::= NULL", "A ::= a", "1 ::= NULL", "A ::= 1", "A ::= null", "A ::= boolean")
        self.wrong("A ::= ENUMERATED { B }", "A ::= ENUMERATED { a, B }", "A ::= ENUMERATED { a, ..., B }",
                   "A ::= ENUMERATED { 1 }", "A ::= SEQUENCE { A NULL }", "A ::= SEQUENCE { a NULL, B NULL }",
                   "A ::= SEQUENCE { a NULL, ..., B NULL }", "A ::= CHOICE { A NULL }",
                   "A ::= CHOICE { a NULL, ..., B NULL }")
        self.right("A ::= ENUMERATED { aB }", "Ab ::= NULL", "A ::= ENUMERATED { z, a }", "Z ::= NULL")

    def test_what_is_left_over_or_missing(self):
        self.wrong("A", "A ::=", "::= NULL", "::=", "A ::= NULL B", "A ::= NULL B ::=", "A ::= NULL,",
                   "A ::= NULL, B ::= NULL", "A ::= NULL }", "{ A ::= NULL }", "A ::= NULL NULL", "A ::= NULL OPTIONAL",
                   "A ::= (NULL)", "A ::= NULL ()", "A ::= BOOLEAN (1)", "A B ::= NULL")


class Integers(SchemaCase):
    def test_min_and_max(self):
        self.right_kind("INTEGER (MIN..5)", "INTEGER (5..MAX)", "INTEGER (MIN..MAX)")
        self.wrong_kind("INTEGER (MIN)", "INTEGER (MAX)", "INTEGER (MAX..5)", "INTEGER (5..MIN)", "INTEGER (MIN..MIN)",
                        "INTEGER (MAX..MAX)", "INTEGER (min..max)")

    def test_order(self):
        self.right_kind("INTEGER (5..5)", "INTEGER (-5..-4)", "INTEGER (-5..5)")
        self.wrong_kind("INTEGER (6..5)", "INTEGER (-4..-5)", "INTEGER (0..-1)",
                        "INTEGER (9223372036854775807..-9223372036854775808)")

    def test_ends(self):
        least, most = -2 ** 63, 2 ** 63 - 1
        self.right_kind(f"INTEGER ({least})", f"INTEGER ({most})", f"INTEGER ({least}..{most})",
                        f"INTEGER (MIN..{least})", f"INTEGER ({most}..MAX)")
        self.wrong_kind(f"INTEGER ({least - 1})", f"INTEGER ({most + 1})", f"INTEGER ({least - 1}..0)",
                        f"INTEGER (0..{most + 1})", f"INTEGER (MIN..{least - 1})", f"INTEGER ({most + 1}..MAX)",
                        f"INTEGER (MIN..{most + 1})", f"INTEGER (0..{2 ** 64})", f"INTEGER ({least - 1}..MAX)")

    def test_forms(self):
        self.wrong_kind("INTEGER ()", "INTEGER (1", "INTEGER 1", "INTEGER (1..)", "INTEGER (..1)", "INTEGER (1,2)",
                        "INTEGER (1..2..3)", "INTEGER (1)(1)", "INTEGER ((1))", "INTEGER (a)", "INTEGER (A)",
                        "INTEGER (SIZE (1))", "INTEGER { a }", "INTEGER )", "INTEGER (1 MAX)", "INTEGER (1..2, ...)")


class Strings(SchemaCase):
    def test_sizes(self):
        for name in ("BIT", "OCTET"):
            self.right_kind(*[f"{name} STRING (SIZE ({size}))" for size in (
                "0", "1", "65535", "0..0", "0..65535", "65535..65535", "0..MAX", "65535..MAX", "3..4")])
            self.wrong_kind(*[f"{name} STRING (SIZE ({size}))" for size in (
                "65536", "0..65536", "65536..MAX", "-1", "-1..3", "MAX", "MIN", "MIN..3", "MAX..MAX", "4..3",
                "1..0", "", "1..", "..1", "1..MIN", "1,2", "9223372036854775807", "a")])

    def test_forms(self):
        for name in ("BIT", "OCTET"):
            self.wrong_kind(*[name + rest for rest in (
                "", "STRING", " string", " STRINGS", " STRING SIZE (1)", " STRING (SIZE 1)", " STRING (1)",
                " STRING ((SIZE (1)))", " STRING (SIZE (1)", " STRING (SIZE (1))(SIZE (1))", " STRING (size (1))",
                " STRING ()", " STRING (SIZE)", " STRING { a }", " STRING (SIZE ((1)))", " (SIZE (1)) STRING")])
        self.wrong_kind("STRING", "BIT OCTET STRING", "BITSTRING", "BIT NULL")


class Lists(SchemaCase):
    def test_enumerated(self):
        self.right_kind("ENUMERATED { a }", "ENUMERATED { a, b, c }", "ENUMERATED { a, ... }",
                        "ENUMERATED { a, b, ..., c }", "ENUMERATED { a, ..., b, c, d }")
        self.wrong_kind("ENUMERATED", "ENUMERATED { }", "ENUMERATED { ... }", "ENUMERATED { ..., a }",
                        "ENUMERATED { a, }", "ENUMERATED { , a }", "ENUMERATED { a,, b }", "ENUMERATED { a b }",
                        "ENUMERATED { a ... }", "ENUMERATED { a ..., b }", "ENUMERATED { a, ... b }",
                        "ENUMERATED { a, ..., }", "ENUMERATED { a, ..., ... }", "ENUMERATED { a, ..., b, ... }",
                        "ENUMERATED { a, ..., b, ..., c }", "ENUMERATED { a", "ENUMERATED { a,", "ENUMERATED { a, ...",
                        "ENUMERATED a", "ENUMERATED ( a )", "ENUMERATED { a NULL }", "ENUMERATED { a (1) }",
                        "ENUMERATED { a OPTIONAL }", "ENUMERATED { a } }", "ENUMERATED {")

    def test_sequence(self):
        self.right_kind("SEQUENCE { }", "SEQUENCE {}", "SEQUENCE { ... }", "SEQUENCE { a NULL }",
                        "SEQUENCE { a NULL OPTIONAL }", "SEQUENCE { a NULL OPTIONAL, b NULL, c NULL OPTIONAL }",
                        "SEQUENCE { a NULL, ... }", "SEQUENCE { a NULL OPTIONAL, ... }",
                        "SEQUENCE { a NULL, ..., b NULL }", "SEQUENCE { a NULL, ..., b NULL, c NULL OPTIONAL }",
                        "SEQUENCE { a SEQUENCE { a SEQUENCE { } OPTIONAL }, ..., b SEQUENCE { ... } }",
                        "SEQUENCE { a SEQUENCE OF NULL OPTIONAL }")
        self.wrong_kind("SEQUENCE", "SEQUENCE {", "SEQUENCE }", "SEQUENCE { , }", "SEQUENCE { a }", "SEQUENCE { NULL }",
                        "SEQUENCE { a NULL, }", "SEQUENCE { , a NULL }", "SEQUENCE { a NULL b NULL }",
                        "SEQUENCE { a NULL,, b NULL }", "SEQUENCE { ..., a NULL }", "SEQUENCE { ..., }",
                        "SEQUENCE { , ... }", "SEQUENCE { ... ... }", "SEQUENCE { ..., ... }",
                        "SEQUENCE { a NULL ... }", "SEQUENCE { a NULL, ..., }", "SEQUENCE { a NULL, ... b NULL }",
                        "SEQUENCE { a NULL, ..., ... }", "SEQUENCE { a NULL, ..., b NULL, ... }",
                        "SEQUENCE { a NULL, ..., b NULL, ..., c NULL }", "SEQUENCE { a NULL OPTIONAL OPTIONAL }",
                        "SEQUENCE { a OPTIONAL }", "SEQUENCE { a OPTIONAL NULL }", "SEQUENCE { OPTIONAL }",
                        "SEQUENCE { a NULL", "SEQUENCE { a NULL,", "SEQUENCE { a NULL, ...", "SEQUENCE { ...",
                        "SEQUENCE { a: NULL }", "SEQUENCE ( a NULL )", "SEQUENCE { a NULL optional }",
                        "SEQUENCE { a NULL, ... OPTIONAL }", "SEQUENCE { a NULL DEFAULT NULL }")

    def test_choice(self):
        self.right_kind("CHOICE { a NULL }", "CHOICE { a NULL, b NULL }", "CHOICE { a NULL, ... }",
                        "CHOICE { a NULL, ..., b NULL }", "CHOICE { a NULL, b NULL, ..., c NULL, d NULL }",
                        "CHOICE { a CHOICE { a CHOICE { a NULL } }, ..., b CHOICE { a NULL, ... } }")
        self.wrong_kind("CHOICE", "CHOICE { }", "CHOICE { ... }", "CHOICE { ..., a NULL }", "CHOICE { a }",
                        "CHOICE { a NULL, }", "CHOICE { , a NULL }", "CHOICE { a NULL b NULL }",
                        "CHOICE { a NULL,, b NULL }", "CHOICE { a NULL ... }", "CHOICE { a NULL, ..., }",
                        "CHOICE { a NULL, ... b NULL }", "CHOICE { a NULL, ..., ... }",
                        "CHOICE { a NULL, ..., b NULL, ... }", "CHOICE { a NULL OPTIONAL }",
                        "CHOICE { a NULL, ..., b NULL OPTIONAL }", "CHOICE { NULL }", "CHOICE { a NULL",
                        "CHOICE OF NULL", "CHOICE (SIZE (1)) OF NULL")

    def test_sequence_of(self):
        self.right_kind("SEQUENCE OF NULL", "SEQUENCE OF SEQUENCE OF NULL", "SEQUENCE (SIZE (3)) OF NULL",
                        "SEQUENCE (SIZE (0..65535)) OF NULL", "SEQUENCE (SIZE (2..MAX)) OF NULL",
                        "SEQUENCE OF BIT STRING (SIZE (1))", "SEQUENCE OF ENUMERATED { a }",
                        "SEQUENCE (SIZE (1..2)) OF SEQUENCE (SIZE (3..4)) OF SEQUENCE { }")
        self.wrong_kind("SEQUENCE OF", "SEQUENCE NULL", "SEQUENCE OFNULL", "SEQUENCE of NULL", "SEQUENCE OF a",
                        "SEQUENCE (SIZE (1)) NULL", "SEQUENCE (SIZE (1)) { a NULL }", "SEQUENCE (SIZE (1)) { }",
                        "SEQUENCE SIZE (1) OF NULL", "SEQUENCE OF (SIZE (1)) NULL", "SEQUENCE OF NULL (SIZE (1))",
                        "SEQUENCE (SIZE (65536)) OF NULL", "SEQUENCE (SIZE (0..65536)) OF NULL",
                        "SEQUENCE (SIZE (-1)) OF NULL", "SEQUENCE (SIZE (MAX)) OF NULL", "SEQUENCE (SIZE (3..2)) OF NULL",
                        "SEQUENCE (1..2) OF NULL", "SEQUENCE (SIZE (1)) OF", "SEQUENCE { OF NULL }", "SEQUENCE OF { }",
                        "SEQUENCE OF OF NULL", "SEQUENCE (SIZE (1..2) OF NULL", "SEQUENCE OF OPTIONAL")

    def test_names_twice(self):
        self.wrong_kind("ENUMERATED { a, a }", "ENUMERATED { a, b, a }", "ENUMERATED { a, ..., a }",
                        "ENUMERATED { a, ..., b, b }",
                        "SEQUENCE { a NULL, a NULL }", "SEQUENCE { a NULL, b NULL, a INTEGER }",
                        "SEQUENCE { a NULL, ..., a NULL }", "SEQUENCE { a NULL, ..., b NULL, b NULL }",
                        "SEQUENCE { a NULL OPTIONAL, a NULL OPTIONAL }",
                        "CHOICE { a NULL, a NULL }", "CHOICE { a NULL, ..., a NULL }",
                        "CHOICE { a NULL, ..., b NULL, b NULL }")

    def test_names_again_within_others(self):
        self.right_kind("SEQUENCE { a SEQUENCE { a NULL, b NULL }, b CHOICE { a NULL, b ENUMERATED { a, b } } }",
                        "ENUMERATED { a, aa, aA, a-a, a--a }")
        self.right("A ::= ENUMERATED { a } B ::= ENUMERATED { a }", count=2)
        # The names outside count on behind what stood within.
        self.wrong_kind("SEQUENCE { a SEQUENCE { b NULL }, a NULL }", "CHOICE { a CHOICE { b NULL }, c NULL, a NULL }",
                        "SEQUENCE { a SEQUENCE { b NULL, ... }, ..., c NULL, a NULL }")

    def test_extensions_within_others(self):
        self.right_kind("SEQUENCE { a SEQUENCE { b NULL, ..., c NULL }, ..., d NULL }")
        self.wrong_kind("SEQUENCE { a NULL, ..., b SEQUENCE { ..., c NULL } }",
                        "SEQUENCE { a NULL, ..., b CHOICE { a NULL, ... }, ... }")


class Large(SchemaCase):
    def filled(self, text, filling):
        return (text + filling * 65536)[:65536]

    def test_a_text_of_65536_bytes(self):
        self.right(self.filled("A ::= NULL", " "), self.filled("A ::= NULL --", "x"), self.filled("A ::= NULL ", "-"),
                   self.filled("A ::= NULL\n", "\n"), " " * (65536 - 10) + "A ::= NULL",
                   "--" + "'" * (65536 - 13) + "\nA ::= NULL")
        self.wrong(self.filled("A ::= ", " "), self.filled("A ::= NULL ", "x"), self.filled("A ::= INTEGER (", "1"),
                   self.filled("A ::= NULL ", "{"), self.filled("A ::= NULL ", "'"), self.filled("A ::= NULL ", "."),
                   self.filled("A ::= NULL ", "'0'B"), self.filled("--", "x"), self.filled("A ::= NULL", ":"))

    def test_longer_ones(self):
        self.assertEqual(asked(self.filled("A ::= NULL", " ") + " "), [-1])
        self.assertEqual(asked("'" * 65537), [-1])

    def test_many_names(self):
        names = [f"n{n}" for n in range(7000)]
        self.right("A ::= ENUMERATED { " + ", ".join(names) + " }")
        self.wrong("A ::= ENUMERATED { " + ", ".join(names) + ", n3500 }")
        parts = [f"n{n} NULL" for n in range(4000)]
        self.right("A ::= SEQUENCE { " + ", ".join(parts) + " }", "A ::= CHOICE { " + ", ".join(parts) + ", ... }")
        self.wrong("A ::= SEQUENCE { " + ", ".join(parts) + ", ..., n0 NULL }")

    def test_deep(self):
        self.right("A ::= " + "SEQUENCE OF " * 5400 + "NULL",
                   "A ::= " + "SEQUENCE(SIZE(1))OF " * 3200 + "A",
                   "A ::= " + "CHOICE{a " * 6500 + "NULL" + "}" * 6500,
                   "A ::= " + "SEQUENCE{a " * 5400 + "NULL" + "}" * 5400,
                   "A ::= " + "SEQUENCE{a " * 3000 + "NULL" + " OPTIONAL}" * 3000,
                   "A ::= " + "CHOICE{a " * 2000 + "NULL" + ",...,b NULL}" * 2000)

    def test_deep_and_wrong(self):
        self.wrong("A ::= " + "SEQUENCE OF " * 5400, "A ::= " + "SEQUENCE OF " * 5400 + "B",
                   "A ::= " + "CHOICE{a " * 6500 + "NULL" + "}" * 6499,
                   "A ::= " + "CHOICE{a " * 6500 + "NULL" + "}" * 6501,
                   "A ::= " + "SEQUENCE{a " * 5400 + "NULL" + "}" * 5398 + ",a NULL}}",
                   "A ::= " + "SEQUENCE{a " * 5400 + "NULL" + "}" * 5399 + ",}")

    def test_a_long_chain_of_names(self):
        self.right("".join(f"T{n} ::= T{(n + 1) % 256} " for n in range(256)), count=256)


class Calls(SchemaCase):
    TEXTS = ("A ::= NULL", "A ::= B", "B ::= NULL", "A ::= B B ::= NULL", "", "A ::= ENUMERATED { a, ..., b }",
             "A ::= ENUMERATED { a, ..., a }", "'", "A ::= SEQUENCE { a SEQUENCE OF A, ... }")

    def test_what_is_handed_in_stays(self):
        for text in self.TEXTS:
            given = list(text.encode())
            schema(given)
            self.assertEqual(given, list(text.encode()))

    def test_nothing_is_kept(self):
        first = {text: asked(text) for text in self.TEXTS}
        for before in self.TEXTS:
            for text in self.TEXTS:
                asked(before)
                self.assertEqual(asked(text), first[text], (before, text))

    def test_an_answer_is_the_callers_own(self):
        for text in ("A ::= NULL", ""):
            answer = asked(text)
            expected = list(answer)
            answer.append(7)
            answer[0] = 9
            self.assertEqual(asked(text), expected)

    def test_what_is_given_back(self):
        for text in self.TEXTS + ("x" * 65537,):
            answer = asked(text)
            self.assertIs(type(answer), list)
            self.assertEqual([type(number) for number in answer], [int])


if __name__ == "__main__":
    unittest.main()
