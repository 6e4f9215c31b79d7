"""What pack makes of the values of each kind, with bits written by hand; and the values that pack and tell refuse."""

import unittest

from packcase import PackCase

LEAST = -2 ** 63
MOST = 2 ** 63 - 1


# How many items, and what they are counted by: the bits ahead of each stretch, and how many items it has.
COUNTED = (
    (127, (("0 1111111", 127),)),
    (128, (("10 00000010000000", 128),)),
    (16383, (("10 11111111111111", 16383),)),
    (16384, (("11 000001", 16384), ("0 0000000", 0))),
    (16385, (("11 000001", 16384), ("0 0000001", 1))),
    (16511, (("11 000001", 16384), ("0 1111111", 127))),
    (16512, (("11 000001", 16384), ("10 00000010000000", 128))),
    (32000, (("11 000001", 16384), ("10 11110100000000", 15616))),
    (32767, (("11 000001", 16384), ("10 11111111111111", 16383))),
    (32768, (("11 000010", 32768), ("0 0000000", 0))),
    (49151, (("11 000010", 32768), ("10 11111111111111", 16383))),
    (49152, (("11 000011", 49152), ("0 0000000", 0))),
    (49153, (("11 000011", 49152), ("0 0000001", 1))),
    (65026, (("11 000011", 49152), ("10 11111000000010", 15874))),
    (65533, (("11 000011", 49152), ("10 11111111111101", 16381))),
    (65538, (("11 000100", 65536), ("0 0000010", 2))),
    (81922, (("11 000100", 65536), ("11 000001", 16384), ("0 0000010", 2))),
    (131074, (("11 000100", 65536), ("11 000100", 65536), ("0 0000010", 2))),
    (146946, (("11 000100", 65536), ("11 000100", 65536), ("10 11111000000010", 15874))),
)


def counted(stretches, bits, width):
    """The bits of items that have so many each, with what counts them."""
    made, start = "", 0
    for ahead, count in stretches:
        made += ahead + bits[start * width:(start + count) * width]
        start += count
    return made


def names(letter, count):
    return [f"{letter}{place}" for place in range(count)]


def binary(number, width):
    return f"{number:0{width}b}" if width else ""


class Plain(PackCase):
    def test_boolean(self):
        self.kind_bits("BOOLEAN", ("TRUE", "1"), ("FALSE", "0"))
        self.no_value("BOOLEAN", "1", "0", "true", "True", "NULL", "'1'B", "TRUE TRUE", "TRUE,", "{ TRUE }", "", "TRUEx")

    def test_null(self):
        self.kind_bits("NULL", ("NULL", ""))
        self.no_value("NULL", "null", "0", "{ }", "", "''B", "NULL NULL", "FALSE", "NULL-", "(NULL)")

    def test_blanks_and_remarks_between(self):
        for text in ("TRUE", "\t\r\n TRUE \n", "-- x\nTRUE", "TRUE --", "TRUE --FALSE\n", "--\n--\nTRUE\n--\n"):
            self.kind_bits("BOOLEAN", (text, "1"))
        self.no_value("BOOLEAN", "-- TRUE", "TRUE--", "TR UE", "- -\nTRUE", "TRUE \0", "TRUE \x0b", "\xa0TRUE", "TRUE ;",
                      "TRUE - -", "'", "TRUE '")
        kind = "SEQUENCE{a NULL,b CHOICE{c SEQUENCE OF INTEGER(0..7)}}"
        for text in ("{a NULL,b c:{1,2}}", " {\na --{\n NULL\t,\r\n\nb c\n:--:\n{--}\n1--2\n, 2\n}\n}--\n "):
            self.kind_bits(kind, (text, "00000010 001 010"))
        self.no_value(kind, "{a NULL,bc:{1,2}}", "{aNULL,b c:{1,2}}", "{a NULL--\n,b c:{1,2}}", "{a NULL,b c:{1 2}}")


class Integers(PackCase):
    def test_one_number(self):
        self.kind_bits("INTEGER (5)", ("5", ""))
        self.kind_bits("INTEGER (-5..-5)", ("-5", ""))
        self.no_value("INTEGER (5)", "4", "6", "-5")

    def test_both_bounds(self):
        self.kind_bits("INTEGER (0..1)", ("0", "0"), ("1", "1"))
        self.kind_bits("INTEGER (0..2)", ("0", "00"), ("1", "01"), ("2", "10"))
        self.kind_bits("INTEGER (-3..4)", ("-3", "000"), ("0", "011"), ("4", "111"))
        self.kind_bits("INTEGER (0..255)", ("0", "00000000"), ("255", "11111111"))
        self.kind_bits("INTEGER (3..258)", ("3", "00000000"), ("4", "00000001"), ("258", "11111111"))
        self.kind_bits("INTEGER (0..256)", ("0", "000000000"), ("255", "011111111"), ("256", "100000000"))
        self.kind_bits("INTEGER (-200..56)", ("-200", "000000000"), ("55", "011111111"), ("56", "100000000"))
        self.kind_bits("INTEGER (0..65535)", ("258", "00000001 00000010"))
        self.kind_bits("INTEGER (0..65536)", ("258", "0 00000001 00000010"), ("65536", "1" + 16 * "0"))

    def test_all_numbers(self):
        kind = f"INTEGER ({LEAST}..{MOST})"
        self.kind_bits(kind, (str(LEAST), "0" * 64), (str(MOST), "1" * 64), ("0", "1" + "0" * 63),
                       ("-1", "0" + "1" * 63), (str(LEAST + 1), "0" * 63 + "1"))
        self.no_value(kind, str(LEAST - 1), str(MOST + 1))
        self.kind_bits(f"INTEGER ({LEAST}..{MOST - 1})", (str(MOST - 1), "1" * 63 + "0"))
        self.kind_bits(f"INTEGER ({LEAST}..-1)", ("-1", "1" * 63))

    def test_bounds_hold(self):
        self.no_value("INTEGER (0..255)", "-1", "256", "99999999999999999999")
        self.no_value("INTEGER (-3..4)", "-4", "5", str(LEAST), str(MOST))
        self.no_value("INTEGER (5..MAX)", "4", "-5", str(LEAST), str(MOST + 1))
        self.no_value("INTEGER (MIN..5)", "6", str(MOST), str(LEAST - 1))
        self.no_value("INTEGER", str(LEAST - 1), str(MOST + 1), "99999999999999999999", "-99999999999999999999",
                      "100000000000000000000")
        self.no_value("INTEGER (MIN..MAX)", str(LEAST - 1), str(MOST + 1))

    def test_lower_bound_alone(self):
        self.kind_bits("INTEGER (0..MAX)", ("0", "00000001 00000000"), ("127", "00000001 01111111"),
                       ("128", "00000001 10000000"), ("255", "00000001 11111111"),
                       ("256", "00000010 00000001 00000000"), ("65535", "00000010 11111111 11111111"),
                       ("65536", "00000011 00000001 00000000 00000000"),
                       (str(2 ** 56 - 1), "00000111" + "1" * 56), (str(2 ** 56), "00001000 00000001" + "0" * 56),
                       (str(MOST), "00001000 0" + "1" * 63))
        self.kind_bits("INTEGER (5..MAX)", ("5", "00000001 00000000"), ("260", "00000001 11111111"),
                       ("261", "00000010 00000001 00000000"))
        self.kind_bits("INTEGER (-5..MAX)", ("-5", "00000001 00000000"), ("0", "00000001 00000101"),
                       ("250", "00000001 11111111"), ("251", "00000010 00000001 00000000"))
        self.kind_bits(f"INTEGER ({LEAST}..MAX)", (str(LEAST), "00000001 00000000"), ("0", "00001000 1" + "0" * 63),
                       ("-1", "00001000 0" + "1" * 63), (str(MOST), "00001000" + "1" * 64))
        self.kind_bits(f"INTEGER ({MOST}..MAX)", (str(MOST), "00000001 00000000"))

    def test_signed(self):
        for kind in ("INTEGER", "INTEGER (MIN..MAX)", f"INTEGER (MIN..{MOST})"):
            self.kind_bits(
                kind, ("0", "00000001 00000000"), ("1", "00000001 00000001"), ("-1", "00000001 11111111"),
                ("127", "00000001 01111111"), ("128", "00000010 00000000 10000000"), ("-128", "00000001 10000000"),
                ("-129", "00000010 11111111 01111111"), ("255", "00000010 00000000 11111111"),
                ("256", "00000010 00000001 00000000"), ("32767", "00000010 01111111 11111111"),
                ("32768", "00000011 00000000 10000000 00000000"), ("-32768", "00000010 10000000 00000000"),
                ("-32769", "00000011 11111111 01111111 11111111"),
                (str(2 ** 55 - 1), "00000111 0" + "1" * 55), (str(2 ** 55), "00001000 00000000 1" + "0" * 55),
                (str(-2 ** 55), "00000111 1" + "0" * 55), (str(-2 ** 55 - 1), "00001000 11111111 0" + "1" * 55),
                (str(MOST), "00001000 0" + "1" * 63), (str(LEAST), "00001000 1" + "0" * 63))

    def test_upper_bound_alone(self):
        self.kind_bits("INTEGER (MIN..5)", ("5", "00000001 00000101"), ("-1", "00000001 11111111"),
                       (str(LEAST), "00001000 1" + "0" * 63))
        self.kind_bits(f"INTEGER (MIN..{LEAST})", (str(LEAST), "00001000 1" + "0" * 63))

    def test_no_numbers(self):
        self.no_value("INTEGER", "", "TRUE", "NULL", "'1'B", "'01'H", "a", "{ }", "1 2", "1,", "00", "01", "-0", "-", "- 1",
                      "+1", "1.", "1..2", "(1)", "MIN", "MAX", "1a", "0x1", "--1")


class Enumerated(PackCase):
    def test_without_dots(self):
        self.kind_bits("ENUMERATED { a }", ("a", ""))
        self.kind_bits("ENUMERATED { b, a }", ("b", "0"), ("a", "1"))
        self.kind_bits("ENUMERATED { a, b, c }", ("a", "00"), ("b", "01"), ("c", "10"))

    def test_with_dots(self):
        self.kind_bits("ENUMERATED { a, ... }", ("a", "0"))
        self.kind_bits("ENUMERATED { a, b, ... }", ("a", "0 0"), ("b", "0 1"))
        self.kind_bits("ENUMERATED { a, b, c, ... }", ("a", "0 00"), ("c", "0 10"))

    def test_extensions_do_not_count_among_the_others(self):
        self.kind_bits("ENUMERATED { a, ..., b }", ("a", "0"), ("b", "1 0 000000"))
        self.kind_bits("ENUMERATED { a, b, ..., c, d }", ("b", "0 1"), ("c", "1 0 000000"), ("d", "1 0 000001"))

    def test_many(self):
        for count, width in ((4, 2), (5, 3), (256, 8), (257, 9)):
            kind = "ENUMERATED { " + ", ".join(names("n", count)) + " }"
            self.kind_bits(kind, ("n0", "0" * width), (f"n{count - 1}", binary(count - 1, width)))

    def test_places_of_extensions(self):
        kind = "ENUMERATED { a, b, ..., " + ", ".join(names("n", 300)) + " }"
        self.kind_bits(kind, ("n0", "1 0 000000"), ("n63", "1 0 111111"), ("n64", "1 1 00000001 01000000"),
                       ("n127", "1 1 00000001 01111111"), ("n128", "1 1 00000001 10000000"),
                       ("n255", "1 1 00000001 11111111"), ("n256", "1 1 00000010 00000001 00000000"))

    def test_no_names(self):
        self.no_value("ENUMERATED { a, b, ..., c }", "d", "A", "", "0", "a b", "a,", "{ a }", "'1'B", "...", "TRUE", "a:",
                      "a: NULL", "aa", "a-", "a " + "b" * 65)


class Strings(PackCase):
    def test_bits_of_one_size(self):
        self.kind_bits("BIT STRING (SIZE (0))", ("''B", ""))
        self.kind_bits("BIT STRING (SIZE (3))", ("'101'B", "101"))
        self.no_value("BIT STRING (SIZE (3))", "'10'B", "'1011'B", "''B")

    def test_bits_with_a_greatest_size(self):
        self.kind_bits("BIT STRING (SIZE (2..5))", ("'10'B", "00 10"), ("'01101'B", "11 01101"))
        self.no_value("BIT STRING (SIZE (2..5))", "'1'B", "'101010'B")
        self.kind_bits("BIT STRING (SIZE (0..65535))", ("''B", "0" * 16), ("'1'B", "0" * 15 + "1 1"))
        self.kind_bits("BIT STRING (SIZE (0..1))", ("''B", "0"), ("'0'B", "1 0"))

    def test_bits_counted(self):
        for size in ("", "(SIZE (0..MAX))", "(SIZE (2..MAX))"):
            self.kind_bits(f"BIT STRING {size}", ("'10'B", "00000010 10"), ("'1111111'B", "00000111 1111111"))
        self.kind_bits("BIT STRING", ("''B", "00000000"))
        self.no_value("BIT STRING (SIZE (2..MAX))", "''B", "'1'B")

    def test_octets_of_one_size(self):
        self.kind_bits("OCTET STRING (SIZE (0))", ("''H", ""))
        self.kind_bits("OCTET STRING (SIZE (2))", ("'0AF4'H", "00001010 11110100"))
        self.no_value("OCTET STRING (SIZE (2))", "'0A'H", "'0AF40A'H")

    def test_octets_with_a_greatest_size(self):
        self.kind_bits("OCTET STRING (SIZE (1..3))", ("'01'H", "00 00000001"), ("'80FF01'H", "10 10000000 11111111 00000001"))
        self.no_value("OCTET STRING (SIZE (1..3))", "''H", "'01020304'H")
        self.kind_bits("OCTET STRING (SIZE (0..65535))", ("'AB'H", "0" * 15 + "1 10101011"))

    def test_octets_counted(self):
        for size in ("", "(SIZE (0..MAX))", "(SIZE (1..MAX))"):
            self.kind_bits(f"OCTET STRING {size}", ("'C0'H", "00000001 11000000"), ("'0001'H", "00000010 00000000 00000001"))
        self.kind_bits("OCTET STRING", ("''H", "00000000"))
        self.no_value("OCTET STRING (SIZE (1..MAX))", "''H")

    def test_every_digit(self):
        self.kind_bits("OCTET STRING (SIZE (8))", ("'0123456789ABCDEF'H", binary(0x0123456789ABCDEF, 64)))

    def test_long_bits(self):
        digits = "".join("1" if place * place % 7 in (1, 4) or place % 16384 == 0 else "0" for place in range(65533))
        for count, stretches in COUNTED:
            if count <= len(digits):
                text = f"'{digits[:count]}'B"
                bits = counted(stretches, digits, 1)
                self.kind_bits("BIT STRING", (text, bits))
                self.kind_bits("BIT STRING (SIZE (127..MAX))", (text, bits))
                self.kind_bits("BIT STRING (SIZE (1..65535))", (text, binary(count - 1, 16) + digits[:count]))
                self.kind_bits(f"BIT STRING (SIZE ({count}))", (text, digits[:count]))

    def test_long_octets(self):
        octets = "".join(f"{place * 37 % 251:02X}" for place in range(32766))
        bits = "".join(binary(int(digit, 16), 4) for digit in octets)
        for count, stretches in COUNTED + ((32766, (("11 000001", 16384), ("10 11111111111110", 16382))),):
            if 2 * count <= len(octets):
                self.kind_bits("OCTET STRING", (f"'{octets[:2 * count]}'H", counted(stretches, bits, 8)))

    def test_no_strings(self):
        self.no_value("BIT STRING", "", "''H", "'00'H", "'2'B", "'1'", "'1", "1", "'1'b", "'1' B", "'1''1'B", "'1 1'B", "'1'B '1'B",
                      "{ }", "TRUE", "'1\n'B", "'1'B,")
        self.no_value("OCTET STRING", "", "''B", "'1'B", "'A'H", "'ab'H", "'AG'H", "'AB'h", "AB", "'AB'", "'AB", "'AB' H",
                      "'A B'H", "'AB'H 'AB'H", "{ }")


class SequencesOf(PackCase):
    def test_counted(self):
        for size in ("", "(SIZE (0..MAX)) "):
            kind = f"SEQUENCE {size}OF INTEGER (0..7)"
            self.kind_bits(kind, ("{ }", "00000000"), ("{ 5 }", "00000001 101"), ("{ 1, 2, 3 }", "00000011 001 010 011"))

    def test_sizes(self):
        self.kind_bits("SEQUENCE (SIZE (2)) OF BOOLEAN", ("{ TRUE, FALSE }", "10"))
        self.kind_bits("SEQUENCE (SIZE (0)) OF BOOLEAN", ("{ }", ""))
        self.kind_bits("SEQUENCE (SIZE (1..4)) OF BOOLEAN", ("{ TRUE }", "00 1"), ("{ TRUE, FALSE, TRUE, TRUE }", "11 1011"))
        self.kind_bits("SEQUENCE (SIZE (0..1)) OF NULL", ("{ }", "0"), ("{ NULL }", "1"))
        self.kind_bits("SEQUENCE (SIZE (1..MAX)) OF BOOLEAN", ("{ TRUE }", "00000001 1"))
        self.no_value("SEQUENCE (SIZE (2)) OF BOOLEAN", "{ }", "{ TRUE }", "{ TRUE, TRUE, TRUE }")
        self.no_value("SEQUENCE (SIZE (1..4)) OF NULL", "{ }", "{ NULL, NULL, NULL, NULL, NULL }")
        self.no_value("SEQUENCE (SIZE (1..MAX)) OF BOOLEAN", "{ }")

    def test_of_others(self):
        self.kind_bits("SEQUENCE OF NULL", ("{ NULL, NULL }", "00000010"))
        self.kind_bits("SEQUENCE OF SEQUENCE OF BOOLEAN", ("{ { TRUE }, { }, { FALSE, TRUE } }",
                                                          "00000011 00000001 1 00000000 00000010 01"))
        self.kind_bits("SEQUENCE OF CHOICE { a NULL, b BOOLEAN }", ("{ a: NULL, b: TRUE }", "00000010 0 1 1"))
        self.bits("A ::= SEQUENCE OF B B ::= INTEGER (0..3)", "{ 3, 0 }", "00000010 11 00")

    def test_long(self):
        bits = "".join("1" if place % 5 in (0, 3) else "0" for place in range(32767))
        for count, stretches in COUNTED:
            if count <= len(bits):
                text = "{" + ",".join(bits[:count]) + "}"
                self.kind_bits("SEQUENCE OF INTEGER (0..1)", (text, counted(stretches, bits, 1)))
                self.kind_bits(f"SEQUENCE (SIZE ({count})) OF INTEGER (0..1)", (text, bits[:count]))

    def test_no_items(self):
        self.no_value("SEQUENCE OF BOOLEAN", "", "{", "}", "{ TRUE", "{ TRUE,", "TRUE", "{ TRUE, }", "{ , TRUE }", "{ , }",
                      "{ TRUE TRUE }", "{ TRUE,, TRUE }", "{ TRUE } }", "{ { TRUE } }", "{ a TRUE }", "{ 1 }", "{ TRUE, 1 }",
                      "( TRUE )", "{ } { }", "{ ... }", "{ TRUE: TRUE }")


class Choices(PackCase):
    def test_without_dots(self):
        self.kind_bits("CHOICE { a BOOLEAN }", ("a: TRUE", "1"))
        self.kind_bits("CHOICE { a BOOLEAN, b INTEGER (0..7) }", ("a: TRUE", "0 1"), ("b: 6", "1 110"))
        self.kind_bits("CHOICE { b NULL, a BOOLEAN, c NULL }", ("b: NULL", "00"), ("a: TRUE", "01 1"), ("c:NULL", "10"))

    def test_with_dots(self):
        self.kind_bits("CHOICE { a BOOLEAN, ... }", ("a: TRUE", "0 1"))
        self.kind_bits("CHOICE { a BOOLEAN, b NULL, ... }", ("a: TRUE", "0 0 1"), ("b: NULL", "0 1"))
        self.kind_bits("CHOICE { a BOOLEAN, b NULL, c NULL, ... }", ("a: TRUE", "0 00 1"), ("c: NULL", "0 10"))

    def test_extensions(self):
        self.kind_bits("CHOICE { a BOOLEAN, ..., b BOOLEAN, c NULL }", ("a: TRUE", "0 1"),
                       ("b: TRUE", "1 0 000000 00000001 10000000"), ("c: NULL", "1 0 000001 00000001 00000000"))

    def test_places_of_extensions(self):
        kind = "CHOICE { a NULL, ..., " + ", ".join(f"{name} INTEGER (0..255)" for name in names("n", 300)) + " }"
        one = "00000001 10101010"
        self.kind_bits(kind, ("n0: 170", "1 0 000000" + one), ("n63: 170", "1 0 111111" + one),
                       ("n64: 170", "1 1 00000001 01000000" + one), ("n255: 170", "1 1 00000001 11111111" + one),
                       ("n256: 170", "1 1 00000010 00000001 00000000" + one))

    def test_within_each_other(self):
        self.kind_bits("CHOICE { a CHOICE { b CHOICE { c NULL, d NULL } } , e NULL }", ("a: b: d: NULL", "0 1"),
                       ("e: NULL", "1"))

    def test_no_choices(self):
        self.no_value("CHOICE { a BOOLEAN, ..., b NULL }", "", "a", "a:", "a TRUE", ": TRUE", "TRUE", "a: NULL", "b: TRUE",
                      "c: NULL", "A: TRUE", "a: TRUE,", "a: TRUE b: NULL", "a: TRUE, b: NULL", "{ a: TRUE }", "{ a TRUE }",
                      "a: a: TRUE", "a :: TRUE", "a ::= TRUE", "a: { TRUE }")


class Sequences(PackCase):
    def test_parts(self):
        kind = "SEQUENCE { a BOOLEAN, b INTEGER (0..7), c NULL }"
        self.kind_bits(kind, ("{ a TRUE, b 2, c NULL }", "1 010"))
        self.no_value(kind, "{ }", "{ a TRUE }", "{ a TRUE, b 2 }", "{ b 2, c NULL }", "{ a TRUE, c NULL }",
                      "{ b 2, a TRUE, c NULL }", "{ a TRUE, b 2, c NULL, a TRUE }", "{ a TRUE, a TRUE, b 2, c NULL }",
                      "{ a TRUE, b 2, c NULL, c NULL }", "{ a TRUE, b 2, c NULL, d NULL }", "{ a TRUE, b 2, c NULL, }",
                      "{ a TRUE b 2, c NULL }", "{ , a TRUE, b 2, c NULL }", "{ a TRUE,, b 2, c NULL }",
                      "{ a TRUE, b 8, c NULL }", "{ TRUE, 2, NULL }", "{ a: TRUE, b: 2, c: NULL }", "a TRUE, b 2, c NULL",
                      "{ a TRUE, b 2, c NULL", "{ a TRUE, b 2, c NULL } }", "{ a, b, c }", "{ a TRUE, b 2, C NULL }",
                      "{ a TRUE, b 2, c NULL, ... }", "")

    def test_nothing(self):
        self.kind_bits("SEQUENCE { }", ("{ }", ""), ("{}", ""))
        self.kind_bits("SEQUENCE { ... }", ("{ }", "0"))
        for kind in ("SEQUENCE { }", "SEQUENCE { ... }"):
            self.no_value(kind, "", "{ a NULL }", "{ ... }", "{ , }", "NULL", "{ NULL }", "{", "} {", "{ } NULL")

    def test_optional(self):
        kind = "SEQUENCE { a INTEGER (0..3) OPTIONAL, b BOOLEAN, c NULL OPTIONAL, d BOOLEAN OPTIONAL }"
        self.kind_bits(kind, ("{ b TRUE }", "000 1"), ("{ a 2, b TRUE }", "100 10 1"), ("{ b FALSE, c NULL }", "010 0"),
                       ("{ b FALSE, d TRUE }", "001 0 1"), ("{ a 1, b TRUE, c NULL, d FALSE }", "111 01 1 0"),
                       ("{ a 1, b TRUE, d FALSE }", "101 01 1 0"))
        self.no_value(kind, "{ }", "{ a 2 }", "{ a 2, c NULL }", "{ d TRUE }", "{ b TRUE, a 2 }", "{ d TRUE, b TRUE }",
                      "{ b TRUE, d TRUE, c NULL }", "{ b TRUE, d TRUE, d TRUE }", "{ b TRUE OPTIONAL }")
        self.kind_bits("SEQUENCE { a NULL OPTIONAL }", ("{ }", "0"), ("{ a NULL }", "1"))

    def test_many_optional(self):
        kind = "SEQUENCE { " + ", ".join(f"{name} NULL OPTIONAL" for name in names("n", 300)) + " }"
        self.kind_bits(kind, ("{ }", "0" * 300), ("{ n0 NULL, n7 NULL, n299 NULL }", "10000001" + "0" * 291 + "1"))

    def test_dots_alone(self):
        self.kind_bits("SEQUENCE { a BOOLEAN, b NULL OPTIONAL, ... }", ("{ a TRUE }", "0 0 1"),
                       ("{ a TRUE, b NULL }", "0 1 1"))

    def test_extensions(self):
        kind = "SEQUENCE { a BOOLEAN, ..., b BOOLEAN, c INTEGER (0..511) OPTIONAL, d NULL }"
        b, c, d = "00000001 10000000", "00000010 01111111 10000000", "00000001 00000000"
        self.kind_bits(kind, ("{ a TRUE }", "0 1"),
                       ("{ a TRUE, b TRUE, d NULL }", "1 1 0000010 101" + b + d),
                       ("{ a TRUE, b TRUE, c 255, d NULL }", "1 1 0000010 111" + b + c + d))
        self.no_value(kind, "{ a TRUE, b TRUE }", "{ a TRUE, d NULL }", "{ a TRUE, c 255 }", "{ a TRUE, b TRUE, c 255 }",
                      "{ a TRUE, c 255, d NULL }", "{ a TRUE, d NULL, b TRUE }", "{ b TRUE, d NULL, a TRUE }",
                      "{ b TRUE, d NULL }", "{ a TRUE, b TRUE, c 512, d NULL }", "{ a TRUE, b TRUE, d NULL, d NULL }",
                      "{ }", "{ a TRUE, b TRUE, d NULL, e NULL }", "{ a TRUE, ..., b TRUE, d NULL }")

    def test_optional_extensions(self):
        kind = "SEQUENCE { a NULL OPTIONAL, ..., b NULL OPTIONAL, c BOOLEAN OPTIONAL }"
        self.kind_bits(kind, ("{ }", "0 0"), ("{ a NULL }", "0 1"), ("{ b NULL }", "1 0 0000001 10 00000001 00000000"),
                       ("{ a NULL, c TRUE }", "1 1 0000001 01 00000001 10000000"),
                       ("{ b NULL, c TRUE }", "1 0 0000001 11 00000001 00000000 00000001 10000000"))

    def test_one_extension(self):
        self.kind_bits("SEQUENCE { a BOOLEAN, ..., b BOOLEAN }", ("{ a TRUE }", "0 1"),
                       ("{ a TRUE, b TRUE }", "1 1 0 000000 1 00000001 10000000"))

    def test_many_extensions(self):
        for count, head in ((2, "0 000001"), (63, "0 111110"), (64, "0 111111"), (65, "1 01000001"), (66, "1 01000010"),
                            (127, "1 01111111"), (128, "1 10 00000010000000"), (300, "1 10 00000100101100")):
            parts = ", ".join(f"{name} INTEGER (0..255) OPTIONAL" for name in names("n", count))
            kind = "SEQUENCE { a NULL, ..., " + parts + " }"
            self.kind_bits(kind, ("{ a NULL }", "0"),
                           ("{ a NULL, n0 170 }", "1" + head + "1" + "0" * (count - 1) + "00000001 10101010"),
                           (f"{{ a NULL, n{count - 1} 170 }}", "1" + head + "0" * (count - 1) + "1 00000001 10101010"),
                           (f"{{ a NULL, n0 1, n{count - 1} 2 }}",
                            "1" + head + "1" + "0" * (count - 2) + "1 00000001 00000001 00000001 00000010"))

    def test_within_each_other(self):
        kind = "SEQUENCE { a SEQUENCE { b BOOLEAN OPTIONAL }, c SEQUENCE { } OPTIONAL, d SEQUENCE OF SEQUENCE { e NULL } }"
        self.kind_bits(kind, ("{ a { }, d { } }", "0 0 00000000"), ("{ a { b TRUE }, c { }, d { { e NULL } } }", "1 1 1 00000001"))


class ByItself(PackCase):
    def extension(self, kind, value, bits):
        self.kind_bits(f"CHOICE {{ a NULL, ..., b {kind} }}", (f"b: {value}", "1 0 000000" + bits))
        self.kind_bits(f"SEQUENCE {{ a NULL, ..., b {kind} }}", (f"{{ a NULL, b {value} }}", "1 0 000000 1" + bits))

    def test_few_bits(self):
        self.extension("NULL", "NULL", "00000001 00000000")
        self.extension("SEQUENCE { }", "{ }", "00000001 00000000")
        self.extension("BIT STRING (SIZE (1))", "'1'B", "00000001 10000000")
        self.extension("BIT STRING (SIZE (7))", "'1111111'B", "00000001 11111110")
        self.extension("BIT STRING (SIZE (8))", "'11111111'B", "00000001 11111111")
        self.extension("BIT STRING (SIZE (9))", "'111111111'B", "00000010 11111111 10000000")
        self.extension("BIT STRING (SIZE (16))", "'1111111111111111'B", "00000010 11111111 11111111")
        self.extension("INTEGER", "128", "00000011 00000010 00000000 10000000")

    def test_many_bytes(self):
        digits = "".join("1" if place % 3 == 1 else "0" for place in range(65536))
        self.extension("BIT STRING (SIZE (1016))", f"'{digits[:1016]}'B", "01111111" + digits[:1016])
        self.extension("BIT STRING (SIZE (1017))", f"'{digits[:1017]}'B", "10 00000010000000" + digits[:1017] + "0" * 7)
        octets = "".join(f"{place * 29 % 253:02X}" for place in range(32000))
        bits = "".join(binary(int(digit, 16), 4) for digit in octets)
        for count, stretches in COUNTED:
            if 2 * count <= len(octets):
                made = counted(stretches, bits, 8)
                self.extension(f"OCTET STRING (SIZE ({count}))", f"'{octets[:2 * count]}'H", made)

    def test_more_bytes_than_the_text_has(self):
        # Each item here is 512 bytes of bits for parts that are not there.
        absent = "B ::= SEQUENCE { " + ",".join(f"{name} NULL OPTIONAL" for name in names("n", 2048)) + " }"
        schema = "A ::= CHOICE { a NULL, ..., b SEQUENCE (SIZE (1..65535)) OF SEQUENCE { c B, d B } } " + absent
        stretches = dict(COUNTED)
        for items in (127, 128, 160, 256, 287):
            value = "b:{" + "{c{},d{}}," * (items - 1) + "{c{},d{n2047 NULL}}}"
            content = binary(items - 1, 16) + "0" * (items * 4096 - 1) + "1"
            self.bits(schema, value, "1 0 000000" + counted(stretches[len(content) // 8], content, 8))

    def test_one_within_another(self):
        self.kind_bits("CHOICE { a NULL, ..., b CHOICE { a NULL, ..., c BOOLEAN } }",
                       ("b: a: NULL", "1 0000000 00000001 00000000"),
                       ("b: c: TRUE", "1 0000000 00000011 1 0000000 00000001 10000000"))
        self.kind_bits("SEQUENCE { a NULL, ..., b CHOICE { a NULL, ..., c BOOLEAN } }",
                       ("{ a NULL, b c: TRUE }", "1 0000000 1 00000011 1 0000000 00000001 10000000"))
        self.kind_bits("CHOICE { a NULL, ..., b SEQUENCE { a BOOLEAN, ..., c BOOLEAN } }",
                       ("b: { a TRUE, c TRUE }", "1 0000000 00000100 1 1 0000000 1 000000 01100000 00000000"))

    def test_one_within_another_without_an_end(self):
        schema = "A ::= CHOICE { a BOOLEAN, ..., b A }"
        self.bits(schema, "a: TRUE", "0 1")
        self.bits(schema, "b: a: TRUE", "10000000 00000001 01000000")
        self.bits(schema, "b: b: b: a: TRUE", "10000000 00000101 10000000 00000011 10000000 00000001 01000000")


class ByName(PackCase):
    def test_names_add_nothing(self):
        self.bits("A ::= B B ::= C C ::= INTEGER (0..7)", "5", "101")
        self.bits("C ::= SEQUENCE OF D A ::= C D ::= BOOLEAN", "{ TRUE }", "00000001 1")

    def test_itself_within(self):
        schema = "A ::= SEQUENCE { a INTEGER (0..7), b A OPTIONAL }"
        self.bits(schema, "{ a 5 }", "0 101")
        self.bits(schema, "{ a 5, b { a 6, b { a 7 } } }", "1 101 1 110 0 111")

    def test_only_itself(self):
        for schema in ("A ::= A", "A ::= B B ::= A", "A ::= B B ::= C C ::= B"):
            for value in ("", "NULL", "A", "{ }", "0"):
                self.refused(-4, schema, "A", value)

    def test_never_ends(self):
        for schema in ("A ::= SEQUENCE { a A }", "A ::= CHOICE { a A }"):
            for value in ("{ }", "{ a { } }", "a: a: a", "a", "{ a NULL }", "a: NULL"):
                self.refused(-4, schema, "A", value)


if __name__ == "__main__":
    unittest.main()
