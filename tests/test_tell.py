"""Promise 3: what tell tells of the values of each kind, written by hand; each value is handed in with other blanks.

That the told text is told and packed the same is looked at for each of them; what tell refuses is in the tests of pack.
"""

import unittest

from packcase import MOST, PackCase, codes
from thinbits.packing import tell

LEAST = -2 ** 63
GREATEST = 2 ** 63 - 1


class Plain(PackCase):
    def test_number_by_number(self):
        self.assertEqual(tell(MOST, codes("A ::= BOOLEAN"), codes("A"), codes(" TRUE")), [4, 84, 82, 85, 69])
        self.assertEqual(tell(MOST, codes("A ::= SEQUENCE { }"), codes("A"), codes("{}")), [3, 123, 32, 125])
        self.assertEqual(tell(MOST, codes("A ::= CHOICE { a INTEGER }"), codes("A"), codes("a:-70")),
                         [6, 97, 58, 32, 45, 55, 48])
        self.assertEqual(tell(MOST, codes("A ::= SEQUENCE OF OCTET STRING"), codes("A"), codes("{''H,'0F'H}")),
                         [14, 123, 32, 39, 39, 72, 44, 32, 39, 48, 70, 39, 72, 32, 125])

    def test_boolean(self):
        self.kind_tells("BOOLEAN", ("TRUE", "TRUE"), ("FALSE", "FALSE"), ("\t\r\n TRUE\n", "TRUE"),
                        ("--TRUE\nFALSE --TRUE", "FALSE"))

    def test_null(self):
        self.kind_tells("NULL", ("NULL", "NULL"), ("\n\nNULL ", "NULL"), ("--\nNULL --\xff\x00'", "NULL"))

    def test_integer(self):
        for kind in ("INTEGER", "INTEGER (MIN..MAX)", f"INTEGER ({LEAST}..{GREATEST})", f"INTEGER ({LEAST}..MAX)",
                     f"INTEGER (MIN..{GREATEST})"):
            self.kind_tells(
                kind, ("0", "0"), (" 1 ", "1"), ("-1", "-1"), ("\t-10\n", "-10"), ("100--0\n", "100"), ("--\n-120--", "-120"),
                ("9223372036854775807 ", "9223372036854775807"), (" -9223372036854775808", "-9223372036854775808"),
                ("1000000000000000000", "1000000000000000000"), ("-8999999999999999999", "-8999999999999999999"))

    def test_integer_with_bounds(self):
        # The number itself is told, not what it is above the lower bound.
        self.kind_tells("INTEGER (5)", (" 5", "5"))
        self.kind_tells("INTEGER (-3..4)", (" -3", "-3"), ("0 ", "0"), (" 4", "4"))
        self.kind_tells("INTEGER (100..MAX)", (" 100", "100"), (" 355", "355"))
        self.kind_tells("INTEGER (MIN..-7)", (" -7", "-7"), (" -300", "-300"))

    def test_enumerated(self):
        kind = "ENUMERATED { red, b-2, ..., c--3, " + "z" * 64 + " }"
        self.kind_tells(kind, (" red ", "red"), ("--red\nb-2\n", "b-2"), ("\tc--3 --red", "c--3"), (" " + "z" * 64, "z" * 64))
        self.kind_tells("ENUMERATED { a }", ("\na\n", "a"))

    def test_by_name(self):
        self.tells("A ::= B B ::= C C ::= INTEGER (0..7)", " 5 ", "5")
        self.tells("C ::= SEQUENCE OF D A ::= C D ::= BOOLEAN", "{TRUE}", "{ TRUE }")
        self.tells("A ::= SEQUENCE { a B } B ::= CHOICE { b C } C ::= SEQUENCE { c A OPTIONAL }", "{a b:{c{a b:{}}}}",
                   "{ a b: { c { a b: { } } } }")


class Strings(PackCase):
    def test_bits(self):
        for size in ("", "(SIZE (0..MAX))", "(SIZE (0..65535))"):
            self.kind_tells(f"BIT STRING {size}", (" ''B", "''B"), ("'0'B ", "'0'B"), ("\n'1'B", "'1'B"),
                            ("--'0'B\n'00010'B--'", "'00010'B"))
        self.kind_tells("BIT STRING (SIZE (9))", (" '000000001'B ", "'000000001'B"))

    def test_octets(self):
        for size in ("", "(SIZE (0..MAX))", "(SIZE (0..65535))"):
            self.kind_tells(f"OCTET STRING {size}", (" ''H", "''H"), ("'00'H ", "'00'H"), ("\n'0AF4'H", "'0AF4'H"),
                            ("--'00'H\n'0123456789ABCDEF'H--'", "'0123456789ABCDEF'H"))
        self.kind_tells("OCTET STRING (SIZE (2))", (" 'FEDC'H ", "'FEDC'H"))

    def test_digits_of_both(self):
        self.kind_tells("CHOICE { a BIT STRING, b OCTET STRING }", ("a:'0101'B", "a: '0101'B"), ("b:'0101'H", "b: '0101'H"))

    def test_long(self):
        bits = "".join("1" if place % 7 in (1, 2, 4) else "0" for place in range(65533))
        octets = "".join(f"{place * 37 % 251:02X}" for place in range(32766))
        for count in (127, 128, 16383, 16384, 16385, 32766, 32767, 32768, 49152, 65532, 65533):
            text = f"'{bits[:count]}'B"
            self.kind_tells("BIT STRING", (text, text))
            text = f"'{octets[:count - count % 2]}'H"
            self.kind_tells("OCTET STRING", (text, text))


class SequencesOf(PackCase):
    def test_items(self):
        for size in ("", "(SIZE (0..4)) ", "(SIZE (0..MAX)) "):
            self.kind_tells(f"SEQUENCE {size}OF INTEGER", ("{}", "{ }"), ("{ }", "{ }"), ("{ \n\t--}\n }", "{ }"), ("{1}", "{ 1 }"),
                            ("{  1 ,2  , -3}", "{ 1, 2, -3 }"), ("\n{--\n1--,\n,--}\n2--\n}--", "{ 1, 2 }"))
        self.kind_tells("SEQUENCE (SIZE (2)) OF NULL", ("{NULL,NULL}", "{ NULL, NULL }"))

    def test_of_each_kind(self):
        self.kind_tells("SEQUENCE OF BOOLEAN", ("{TRUE,FALSE}", "{ TRUE, FALSE }"))
        self.kind_tells("SEQUENCE OF ENUMERATED { a, ..., b }", ("{a}", "{ a }"), ("{b,a ,b }", "{ b, a, b }"))
        self.kind_tells("SEQUENCE OF BIT STRING", ("{'1'B,''B}", "{ '1'B, ''B }"))
        self.kind_tells("SEQUENCE OF OCTET STRING", ("{'AB'H,''H}", "{ 'AB'H, ''H }"))
        self.kind_tells("SEQUENCE OF CHOICE { a NULL, b INTEGER }", ("{a:NULL}", "{ a: NULL }"),
                        ("{b : 1 ,a :NULL, b:-2}", "{ b: 1, a: NULL, b: -2 }"))
        self.kind_tells("SEQUENCE OF SEQUENCE { a NULL OPTIONAL }", ("{{},{a NULL},{ }}", "{ { }, { a NULL }, { } }"))
        self.kind_tells("SEQUENCE OF SEQUENCE OF NULL", ("{}", "{ }"), ("{{}}", "{ { } }"), ("{{},{}}", "{ { }, { } }"),
                        ("{{NULL,NULL},{},{NULL}}", "{ { NULL, NULL }, { }, { NULL } }"))
        self.kind_tells("SEQUENCE OF SEQUENCE OF SEQUENCE OF NULL", ("{{{}}}", "{ { { } } }"),
                        ("{{{NULL}},{}}", "{ { { NULL } }, { } }"))


class Choices(PackCase):
    def test_ordinary(self):
        kind = "CHOICE { a BOOLEAN, b-1 INTEGER, ..., c OCTET STRING, d NULL }"
        self.kind_tells(kind, ("a:TRUE", "a: TRUE"), ("b-1  :  -5", "b-1: -5"), ("\nc\n:\n''H\n", "c: ''H"), ("d:--\nNULL", "d: NULL"))

    def test_within_each_other(self):
        kind = "CHOICE { a CHOICE { b CHOICE { c NULL, d ENUMERATED { e } }, ..., f NULL } }"
        self.kind_tells(kind, ("a:b:c:NULL", "a: b: c: NULL"), ("a : b :d:e", "a: b: d: e"), ("a:f:NULL", "a: f: NULL"))

    def test_of_brackets(self):
        self.kind_tells("CHOICE { a SEQUENCE { }, b SEQUENCE OF NULL, c SEQUENCE { d NULL } }", ("a:{}", "a: { }"), ("b:{}", "b: { }"),
                        ("b:{NULL}", "b: { NULL }"), ("c:{d NULL}", "c: { d NULL }"))


class Sequences(PackCase):
    def test_nothing(self):
        for kind in ("SEQUENCE { }", "SEQUENCE { ... }", "SEQUENCE { a NULL OPTIONAL }", "SEQUENCE { a NULL OPTIONAL, ..., b NULL }"):
            self.kind_tells(kind, ("{}", "{ }"), ("{ }", "{ }"), (" {\n\n} ", "{ }"), ("{--\n}", "{ }"))

    def test_parts(self):
        kind = "SEQUENCE { a BOOLEAN, b INTEGER, c NULL, d ENUMERATED { x, y }, e BIT STRING, f OCTET STRING }"
        self.kind_tells(kind, ("{a TRUE,b -2,c NULL,d y,e''B,f'0F'H}", "{ a TRUE, b -2, c NULL, d y, e ''B, f '0F'H }"),
                        ("{ a\nFALSE ,b\t0 , c  NULL\n,d x ,e '01'B,f ''H }",
                         "{ a FALSE, b 0, c NULL, d x, e '01'B, f ''H }"))
        self.kind_tells("SEQUENCE { d ENUMERATED { x, y } }", ("{d x}", "{ d x }"))

    def test_brackets_and_choices_within(self):
        kind = ("SEQUENCE { a SEQUENCE { b NULL OPTIONAL }, c CHOICE { d NULL, e CHOICE { f SEQUENCE { } } }, "
                "g SEQUENCE OF SEQUENCE { h INTEGER } }")
        self.kind_tells(kind, ("{a{},c d:NULL,g{}}", "{ a { }, c d: NULL, g { } }"),
                        ("{a{b NULL},c e:f:{},g{{h 1},{h -1}}}", "{ a { b NULL }, c e: f: { }, g { { h 1 }, { h -1 } } }"))

    def test_optional(self):
        kind = "SEQUENCE { a INTEGER OPTIONAL, b BOOLEAN, c NULL OPTIONAL, d SEQUENCE { } OPTIONAL }"
        self.kind_tells(kind, ("{b TRUE}", "{ b TRUE }"), ("{a 0,b TRUE}", "{ a 0, b TRUE }"),
                        ("{b FALSE,c NULL}", "{ b FALSE, c NULL }"), ("{b TRUE,d{}}", "{ b TRUE, d { } }"),
                        ("{a -1,b TRUE,d{}}", "{ a -1, b TRUE, d { } }"),
                        ("{a 1,b TRUE,c NULL,d{}}", "{ a 1, b TRUE, c NULL, d { } }"))

    def test_extensions(self):
        kind = "SEQUENCE { a NULL OPTIONAL, ..., b BOOLEAN, c INTEGER OPTIONAL, d CHOICE { x NULL, ..., y SEQUENCE { } } }"
        self.kind_tells(kind, ("{}", "{ }"), ("{a NULL}", "{ a NULL }"), ("{b TRUE,d x:NULL}", "{ b TRUE, d x: NULL }"),
                        ("{a NULL,b TRUE,d y:{}}", "{ a NULL, b TRUE, d y: { } }"),
                        ("{b FALSE,c 7,d x:NULL}", "{ b FALSE, c 7, d x: NULL }"),
                        ("{a NULL,b TRUE,c -7,d y:{}}", "{ a NULL, b TRUE, c -7, d y: { } }"))
        kind = "SEQUENCE { a NULL, ..., b NULL OPTIONAL, c SEQUENCE OF NULL OPTIONAL }"
        self.kind_tells(kind, ("{a NULL}", "{ a NULL }"), ("{a NULL,b NULL}", "{ a NULL, b NULL }"),
                        ("{a NULL,c{}}", "{ a NULL, c { } }"), ("{a NULL,b NULL,c{NULL}}", "{ a NULL, b NULL, c { NULL } }"))

    def test_many_extensions(self):
        for count in (63, 64, 65, 130):
            parts = ", ".join(f"n{place} INTEGER OPTIONAL" for place in range(count))
            self.kind_tells("SEQUENCE { a NULL, ..., " + parts + " }", ("{a NULL}", "{ a NULL }"),
                            (f"{{a NULL,n0 5,n{count - 1} -5}}", f"{{ a NULL, n0 5, n{count - 1} -5 }}"))

    def test_a_whole_one(self):
        schema = """
        Reading ::= SEQUENCE { id INTEGER (0..65535), kind ENUMERATED { heat, rain, ..., wind },
            note OCTET STRING (SIZE (0..20)) OPTIONAL, ..., where CHOICE { cell INTEGER (0..MAX), none NULL } OPTIONAL }
        A ::= SEQUENCE (SIZE (1..MAX)) OF Reading"""
        value = """{ -- three
            {id 7,kind wind,note'0AF4'H,where cell:300},{id 0 , kind heat}
            ,   { id 65535, kind rain, where none : NULL }}"""
        self.tells(schema, value, "{ { id 7, kind wind, note '0AF4'H, where cell: 300 }, { id 0, kind heat }, "
                                  "{ id 65535, kind rain, where none: NULL } }")


if __name__ == "__main__":
    unittest.main()
