"""The refusals of pack and their order, how deep values go (for tell too), how long texts and answers are."""

import sys
import time
import unittest

from packcase import MOST, PackCase, answer_of, bytes_of, codes, packed, told
from thinbits.packing import pack, schema


class KindNames(PackCase):
    SCHEMA = "A ::= BOOLEAN  Ab-9 ::= NULL  " + "L" * 64 + " ::= INTEGER (0..7)"

    def test_there(self):
        self.assertEqual(packed(self.SCHEMA, "A", "TRUE"), [1, 128])
        self.assertEqual(packed(self.SCHEMA, "Ab-9", "NULL"), [1, 0])
        self.assertEqual(packed(self.SCHEMA, "L" * 64, "5"), [1, 160])

    def test_not_there(self):
        for name in ("B", "a", "Ab", "Ab-", "Ab-90", "AA", "", " A", "A ", "\tA", "A\n", "A A", "A--", "A -- x", "(A)", "'A'",
                     "BOOLEAN", "NULL", "TRUE", "INTEGER", "L" * 63, "L" * 65, "L" * 65536, "\x00", "A\x00", "?", "A?", "A,",
                     "\x80", "A\x80", "\xc1", "\xff", "A\xff", "1", "A ::= BOOLEAN"):
            self.refused(-3, self.SCHEMA, name, "TRUE")

    def test_a_letter_is_no_other_byte(self):
        for code in range(256):
            answer = pack(MOST, codes("A ::= NULL"), [code], codes("NULL"))
            self.assertEqual(answer, [1, 0] if code == ord("A") else [-3], code)


class Order(PackCase):
    def test_too_much_goes_ahead_of_all(self):
        for most in (1048577, 1048578, 2 ** 31, 4294967295):
            for texts in (("A ::= BOOLEAN", "A", "TRUE"), ("", "", ""), ("A", "A", "A"), ("A ::= BOOLEAN", "B", "TRUE"),
                          ("A ::= BOOLEAN", "A", "1")):
                self.assertEqual(packed(*texts, most), [-1])
        self.assertEqual(packed("A ::= BOOLEAN", "A", "TRUE", 1048576), [1, 128])
        self.assertEqual(packed("", "", "", 1048576), [-3])

    def test_schema_and_name_go_ahead_of_the_value(self):
        for most in (0, 1, 1048576):
            for texts in (("", "A", "TRUE"), ("A ::= BOOLEAN x", "A", "TRUE"), ("A ::= B", "A", "TRUE"),
                          ("A ::= INTEGER (MIN)", "A", "1"), ("A ::= BOOLEAN A ::= BOOLEAN", "A", "TRUE"),
                          ("A ::= BOOLEAN", "B", "TRUE"), ("A ::= BOOLEAN", "B", "'"), ("A ::= BOOLEAN B ::= C", "A", "'"),
                          ("A ::= NULL '", "A", "NULL"), ("TRUE", "A", "TRUE")):
                self.assertEqual(packed(*texts, most), [-3])

    def test_the_value_goes_ahead_of_the_length(self):
        for most in (0, 1, 1048576):
            for value in ("1", "", "'", "TRUE TRUE", "\xff", "x" * 65):
                self.assertEqual(packed("A ::= BOOLEAN", "A", value, most), [-4])
        # What is wrong stands behind far more than most.
        self.assertEqual(packed("A ::= SEQUENCE OF OCTET STRING", "A", "{ '" + "00" * 9000 + "'H, 1 }", 5), [-4])
        self.assertEqual(packed("A ::= SEQUENCE OF OCTET STRING", "A", "{ '" + "00" * 9000 + "'H }", 5), [-5])


class Most(PackCase):
    def holds(self, schema_text, value_text, count):
        answer = packed(schema_text, "A", value_text)
        self.assertEqual(len(answer), count + 1)
        self.assertEqual(answer[0], count)
        for most in (count, count + 1):
            self.assertEqual(packed(schema_text, "A", value_text, most), answer)
        for most in (0, count // 2, count - 1):
            self.assertEqual(packed(schema_text, "A", value_text, most), [-5])

    def test_no_bits_are_a_byte(self):
        self.holds("A ::= NULL", "NULL", 1)
        self.holds("A ::= SEQUENCE { }", "{ }", 1)
        self.holds("A ::= SEQUENCE (SIZE (3)) OF NULL", "{ NULL, NULL, NULL }", 1)

    def test_bits(self):
        for width, count in ((1, 1), (7, 1), (8, 1), (9, 2), (16, 2), (17, 3), (80, 10), (81, 11)):
            self.holds(f"A ::= BIT STRING (SIZE ({width}))", "'" + "1" * width + "'B", count)

    def test_extensions(self):
        self.holds("A ::= CHOICE { a NULL, ..., b NULL }", "b: NULL", 3)
        self.holds("A ::= CHOICE { a NULL, ..., b OCTET STRING (SIZE (127)) }", "b: '" + "5A" * 127 + "'H", 129)
        self.holds("A ::= CHOICE { a NULL, ..., b OCTET STRING (SIZE (128)) }", "b: '" + "5A" * 128 + "'H", 131)
        self.holds("A ::= SEQUENCE { a NULL, ..., b NULL, c NULL }", "{ a NULL, b NULL, c NULL }", 6)

    def test_the_greatest(self):
        absent = "B ::= SEQUENCE { " + ",".join(f"n{place} NULL OPTIONAL" for place in range(3072)) + " }"
        schema_text = "A ::= SEQUENCE (SIZE (0..65535)) OF B " + absent
        # 2730 items of 384 bytes, and two bytes for how many, are 1048322: 254 bytes fewer than may be.
        value = "{" + ",".join(["{}"] * 2730) + "}"
        answer = packed(schema_text, "A", value)
        self.assertEqual(answer, [1048322, 10, 170] + [0] * 1048320)
        value = "{" + ",".join(["{}"] * 2731) + "}"
        self.assertEqual(packed(schema_text, "A", value), [-5])
        schema_text = "A ::= SEQUENCE { a SEQUENCE (SIZE (0..65535)) OF B, b OCTET STRING } " + absent
        start = "{ a {" + ",".join(["{}"] * 2730) + "}, b '"
        for octets, count in ((252, 1048576), (253, None)):
            answer = packed(schema_text, "A", start + "5A" * octets + "'H }")
            self.assertEqual(answer[:1], [count or -5])
        answer = packed(schema_text, "A", start + "5A" * 252 + "'H }")
        self.assertEqual(answer[-254:], [128, 252] + [90] * 252)
        self.assertEqual(packed(schema_text, "A", start + "5A" * 252 + "'H }", 1048575), [-5])


def chain(count):
    """T0 names T1, and so on; the last is BOOLEAN."""
    return " ".join(f"T{place} ::= T{place + 1}" for place in range(count)) + f" T{count} ::= BOOLEAN"


class Depth(PackCase):
    def both(self, make):
        """make(count) gives schema, name and the value as it is told, so deep: 64 is taken, 65 is not."""
        for count in (1, 2, 63, 64):
            answer = packed(*make(count))
            self.assertGreaterEqual(answer[0], 1, count)
            self.assertEqual(told(*make(count)), answer_of(make(count)[2]))
        for count in (65, 66, 100, 200):
            self.refused(-4, *make(count))

    def test_kinds_by_name(self):
        self.both(lambda count: (chain(count), "T0", "TRUE"))
        self.assertEqual(packed(chain(64), "T0", "TRUE"), [1, 128])

    def test_the_asked_for_kind_does_not_count(self):
        text = chain(70)
        for place in range(71):
            self.assertEqual(packed(text, f"T{place}", "TRUE"), [1, 128] if place >= 6 else [-4])
            self.assertEqual(told(text, f"T{place}", "TRUE"), answer_of("TRUE") if place >= 6 else [-4])

    def test_choices(self):
        def make(count):
            return "A ::= " + "CHOICE { a " * count + "NULL" + " }" * count, "A", "a: " * count + "NULL"
        self.both(make)

    def test_choices_by_name(self):
        # Each is a choice and a name, but the first is only a choice.
        def make(count):
            return "A ::= CHOICE { a A, b NULL }", "A", "a: " * count + "b: NULL"
        self.assertEqual(packed(*make(31)), [4, 0, 0, 0, 1])
        self.assertEqual(told(*make(31)), answer_of("a: " * 31 + "b: NULL"))
        self.refused(-4, *make(32))

    def test_sequences(self):
        def make(count):
            return "A ::= " + "SEQUENCE { a " * count + "NULL" + " }" * count, "A", "{ a " * count + "NULL" + " }" * count
        self.both(make)

    def test_sequences_of(self):
        def make(count):
            return "A ::= " + "SEQUENCE OF " * count + "NULL", "A", "{ " * count + "NULL" + " }" * count
        self.both(make)
        self.assertEqual(packed(*make(64)), [64] + [1] * 64)

    def test_empty_brackets_do_not_count(self):
        for inner in ("SEQUENCE { }", "SEQUENCE { ... }", "SEQUENCE OF NULL", "SEQUENCE { a NULL OPTIONAL }"):
            self.both(lambda count: ("A ::= " + "SEQUENCE OF " * count + inner, "A", "{ " * count + "{ }" + " }" * count))
            self.both(lambda count: (
                "A ::= " + "CHOICE { a " * count + inner + " }" * count, "A", "a: " * count + "{ }"))
        text = "A ::= " + "SEQUENCE OF " * 65 + "NULL"
        self.assertEqual(packed(text, "A", "{ " * 64 + "{ }" + " }" * 64), [65] + [1] * 64 + [0])
        self.refused(-4, text, "A", "{ " * 65 + " NULL" + " }" * 65)

    def test_mixed(self):
        # In each round a name, a choice, two sorts of brackets and a name again; twelve of them are 60 deep.
        text = ("A ::= SEQUENCE OF B B ::= CHOICE { a SEQUENCE { b A OPTIONAL, c NULL OPTIONAL, d D OPTIONAL } } "
                "D ::= D0 " + " ".join(f"D{place} ::= D{place + 1}" for place in range(3)) + " D3 ::= NULL")
        def make(inner):
            return text, "A", "{ a: { b " * 12 + inner + " } }" * 12
        around = "00000001 100" * 12
        for inner, bits in (("{ }", "00000000"), ("{ a: { } }", "00000001 000"), ("{ a: { c NULL } }", "00000001 010")):
            self.bits(text, make(inner)[2], around + bits)
            self.tells(text, make(inner)[2], make(inner)[2])
        # { is 61, B 62, the choice 63, { 64, D 65.
        self.refused(-4, *make("{ a: { d NULL } }"))
        self.refused(-4, *make("{ a: { b { } } }"))

    def test_one_too_deep_among_others(self):
        text = "A ::= SEQUENCE OF CHOICE { a NULL, b " + "SEQUENCE OF " * 63 + "NULL }"
        self.bits(text, "{ a: NULL, b: " + "{ " * 62 + "{ }" + " }" * 62 + " }",
                  "00000010 0 1" + "00000001" * 62 + "00000000")
        self.refused(-4, text, "A", "{ a: NULL, b: " + "{ " * 63 + "NULL" + " }" * 63 + " }")
        self.refused(-4, text, "A", "{ b: " + "{ " * 63 + "NULL" + " }" * 63 + ", a: NULL }")

    def test_far_too_deep(self):
        text = "A ::= SEQUENCE OF A"
        self.refused(-4, text, "A", "{" * 32768 + "}" * 32768)
        self.refused(-4, text, "A", "{" * 65536)
        self.refused(-4, "A ::= CHOICE { a A }", "A", "a:" * 32768)
        text = "A ::= " + "SEQUENCE OF " * 5460 + "NULL"
        self.assertEqual(packed(text, "A", "{ }"), [1, 0])
        self.refused(-4, text, "A", "{" * 5460 + "}" * 5460)

    def test_with_few_calls_left(self):
        # Some hundred calls are enough for the deepest value.
        text = "A ::= " + "CHOICE { a NULL, ..., b " * 64 + "SEQUENCE { }" + " }" * 64
        value = "b: " * 64 + "{ }"
        sequences = "A ::= " + "SEQUENCE { a " * 64 + "NULL" + " }" * 64
        inner_value = "{ a " * 64 + "NULL" + " }" * 64
        limit = sys.getrecursionlimit()
        sys.setrecursionlimit(400)
        try:
            answers = packed(text, "A", value), told(text, "A", value), told(sequences, "A", inner_value)
        finally:
            sys.setrecursionlimit(limit)
        self.assertEqual(answers[0][0], 64 * 2 + 1)
        self.assertEqual(answers[1:], (answer_of(value), answer_of(inner_value)))


class Long(PackCase):
    def quick(self, schema_text, value_text, name="A", most=MOST):
        self.assertLessEqual(max(len(schema_text), len(value_text)), 65536)
        before = time.process_time()
        answer = packed(schema_text, name, value_text, most)
        self.assertLess(time.process_time() - before, 8)
        return answer

    def long_schema(self, start, item, end=" }"):
        """A schema with as many items as go into a text; item(place) makes one."""
        made, length, place = [], len(start) + len(end), 0
        while length + len(item(place)) + 1 <= 65536:
            made.append(item(place))
            length += len(made[-1]) + 1
            place += 1
        return start + ",".join(made) + end, place

    def test_longest_texts(self):
        text = "A ::= BOOLEAN "
        for filling in (" " * 65536, "\n" * 65536, "-- " + "x" * 65536, "--\n\n" * 16384):
            self.assertEqual(self.quick((text + filling)[:65536], ("TRUE " + filling)[:65535] + "\n"), [1, 128])
        self.assertEqual(self.quick(text, "TRUE" + "x" * 65532), [-4])
        self.assertEqual(self.quick(text, "'" * 65536), [-4])
        self.assertEqual(self.quick(text, "9" * 65536), [-4])
        self.assertEqual(self.quick(text, "-" * 65536), [-4])
        self.assertEqual(self.quick("9" * 65536, "9" * 65536), [-3])

    def test_longest_strings(self):
        answer = self.quick("A ::= BIT STRING", "'" + "1" * 65533 + "'B")
        self.assertEqual(answer, [8195] + bytes_of("11000011" + "1" * 49152 + "10 11111111111101" + "1" * 16381))
        answer = self.quick("A ::= OCTET STRING (SIZE (0..65535))", "'" + "A7" * 32766 + "'H ")
        self.assertEqual(answer, [32768, 0x7F, 0xFE] + [0xA7] * 32766)

    def test_many_numbers(self):
        least = -2 ** 63
        value = "{" + ",".join(["0"] * 32767) + "}"
        answer = self.quick(f"A ::= SEQUENCE (SIZE (32767)) OF INTEGER ({least}..{2 ** 63 - 1})", value)
        self.assertEqual(answer, [32767 * 8] + [128, 0, 0, 0, 0, 0, 0, 0] * 32767)
        answer = self.quick(f"A ::= SEQUENCE (SIZE (32767)) OF INTEGER ({least}..MAX)", value)
        self.assertEqual(answer, [32767 * 9] + [8, 128, 0, 0, 0, 0, 0, 0, 0] * 32767)

    def test_many_extensions(self):
        text, count = self.long_schema("A ::= CHOICE { a NULL, ..., ", lambda place: f"n{place} NULL")
        answer = self.quick(text, f"n{count - 1}: NULL")
        self.assertEqual(answer, [6] + bytes_of(f"11 00000010 {count - 1:016b} 00000001 00000000"))
        text, count = self.long_schema("B ::= ENUMERATED { a, ..., ", lambda place: f"n{place}",
                                       " } A ::= SEQUENCE (SIZE (0..65535)) OF B")
        value = "{" + ",".join([f"n{count - 1}"] * 9000) + "}"
        answer = self.quick(text, value)
        self.assertEqual(answer, [2 + 9000 * 26 // 8] + bytes_of(f"{9000:016b}" + f"11 00000010 {count - 1:016b}" * 9000))

    def test_many_parts_that_must_be_there(self):
        text, count = self.long_schema("A ::= SEQUENCE { ", lambda place: f"n{place} B", " } B ::= INTEGER (0..3)")
        value = "{" + ",".join(f"n{place} {place % 4}" for place in range(count)) + "}"
        bits = "".join(f"{place % 4:02b}" for place in range(count))
        self.assertEqual(self.quick(text, value), [len(bytes_of(bits))] + bytes_of(bits))
        self.assertEqual(self.quick(text, value.replace(f",n{count // 2} {count // 2 % 4},", ",")), [-4])

    def test_many_empty_ones_of_many_parts(self):
        text, count = self.long_schema("B ::= SEQUENCE { ", lambda place: f"n{place} C OPTIONAL",
                                       " } C ::= NULL A ::= SEQUENCE OF B")
        value = "{" + ",".join(["{}"] * 21844) + "}"
        self.assertEqual(self.quick(text, value), [-5])
        self.assertEqual(self.quick(text, value[:-1] + ",NULL}"[:65536 - len(value)]), [-4])
        items = (MOST * 8 - 24) // count
        value = "{" + ",".join(["{}"] * items) + "}"
        self.assertEqual(self.quick(text, value)[0], (16 + items * count + 7) // 8)

    def test_much_by_itself_within_each_other(self):
        # 62 choices around nearly as much as may be answered; each place takes two bits more than bytes.
        names = ",".join(f"n{place} NULL" for place in range(64))
        start, end = "CHOICE { a NULL, ..., " + names + ", z ", " }"
        absent = "B ::= SEQUENCE { " + ",".join(f"n{place} NULL OPTIONAL" for place in range(800)) + " }"
        text = "A ::= " + start * 62 + "SEQUENCE OF B" + end * 62 + absent
        value = "z:" * 62 + "{" + ",".join(["{}"] * 10400) + "}"
        answer = self.quick(text, value)
        self.assertGreater(answer[0], 10400 * 100 + 62 * 4)
        self.assertEqual(self.quick(text, value, most=answer[0]), answer)
        self.assertEqual(self.quick(text, value, most=answer[0] - 1), [-5])
        self.assertEqual(self.quick(text, value.replace("{},", "{},{},", 200)), [-5])


class Untouched(PackCase):
    CASES = (
        (MOST, "A ::= SEQUENCE { a INTEGER, ..., b A }", "A", "{ a 1, b { a 2 } }"),
        (MOST, "A ::= SEQUENCE OF B B ::= ENUMERATED { a, ..., b }", "A", "{ a, b }"),
        (MOST, "A ::= NULL", "B", "NULL"),
        (MOST, "A ::= NULL", "A", "TRUE"),
        (MOST, "A ::= ", "A", "NULL"),
        (0, "A ::= NULL", "A", "NULL"),
        (MOST + 1, "A ::= NULL", "A", "NULL"),
        (MOST, "A ::= A", "A", "NULL"),
        (1, "A ::= OCTET STRING", "A", "'0102'H"),
        (3, "A ::= OCTET STRING", "A", "'0102'H"),
    )

    def test_what_is_handed_in_stays(self):
        for most, *texts in self.CASES:
            given = [codes(text) for text in texts]
            copies = [list(text) for text in given]
            pack(most, *given)
            self.assertEqual(given, copies)

    def test_one_list_for_all(self):
        text = codes("A ::= NULL")
        self.assertEqual(pack(5, text, text, text), [-3])
        self.assertEqual(text, codes("A ::= NULL"))

    def test_answers_do_not_hang_on_earlier_calls(self):
        def answers(cases):
            return [packed(*texts, most) for most, *texts in cases]
        first = answers(self.CASES)
        self.assertEqual(first[-1], [3, 2, 1, 2])
        for answer in [list(answer) for answer in first]:
            answer.append(7)
        self.assertEqual(answers(self.CASES), first)
        self.assertEqual(answers(self.CASES[::-1]), first[::-1])
        self.assertEqual(schema(codes("A ::= NULL B ::= A")), [2])
        self.assertEqual(answers(self.CASES), first)

    def test_whole_numbers_alone(self):
        for most, *texts in self.CASES + ((MOST, "A ::= BOOLEAN", "A", "TRUE"), (MOST, "A ::= BIT STRING", "A", "'1'B")):
            answer = packed(*texts, most)
            self.assertIs(type(answer), list)
            for number in answer:
                self.assertIs(type(number), int)
            if answer[0] >= 0:
                self.assertEqual(answer[0], len(answer) - 1)
            else:
                self.assertEqual(len(answer), 1)


if __name__ == "__main__":
    unittest.main()
