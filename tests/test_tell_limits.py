"""The refusals of tell and their order, what most is held against, the longest texts, and what a call leaves behind."""

import time
import unittest

from packcase import MOST, PackCase, answer_of, codes, packed, told
from thinbits.packing import pack, schema, tell

ABOVE = (1048577, 1048578, 2 ** 31, 4294967295)


class Order(PackCase):
    def test_too_much(self):
        for texts in (("A ::= BOOLEAN", "A", "TRUE"), ("A ::= SEQUENCE OF NULL", "A", "{ }"), ("B ::= A A ::= NULL", "B", "NULL")):
            self.assertEqual(told(*texts, 1048576), answer_of(texts[2]))
            for most in ABOVE:
                self.assertEqual(told(*texts, most), [-1])
                self.assertEqual(packed(*texts, most), [-1])

    def test_no_schema_and_no_such_kind_go_ahead(self):
        # Of each the value is right, or wrong too: that is -3 as well.
        for texts in (("", "", ""), ("", "A", "TRUE"), ("A ::= BOOLEAN x", "A", "TRUE"), ("A ::= B", "A", "TRUE"),
                      ("A ::= BOOLEAN A ::= BOOLEAN", "A", "TRUE"), ("A ::= INTEGER (MIN)", "A", "1"),
                      ("A ::= NULL '", "A", "NULL"), ("A ::= BOOLEAN", "B", "TRUE"), ("A ::= BOOLEAN", "a", "TRUE"),
                      ("A ::= BOOLEAN", "", "TRUE"), ("A ::= BOOLEAN", "A ", "TRUE"), ("A ::= BOOLEAN", "B", "'"),
                      ("A ::= BOOLEAN B ::= C", "A", "'"), ("A ::= BOOLEAN", "BOOLEAN", "TRUE")):
            for most in (0, 1, 4, 1048576) + ABOVE:
                self.assertEqual(told(*texts, most), [-3], texts)

    def test_no_value_goes_ahead(self):
        for kind, values in (("BOOLEAN", ("1", "", "'", "TRUE TRUE", "\xff", "x" * 65)),
                             ("INTEGER (0..7)", ("8", "-1", "00", "-0", "9" * 20, "9" * 21)),
                             ("BIT STRING (SIZE (2..3))", ("'1'B", "'1111'B", "'01'H")),
                             ("SEQUENCE { a NULL, ..., b NULL, c NULL }", ("{ }", "{ a NULL, b NULL }", "{ b NULL, c NULL }"))):
            for value in values:
                for most in (0, 1, 4, 1048576) + ABOVE:
                    self.assertEqual(told(f"A ::= {kind}", "A", value, most), [-4], (kind, value))

    def test_a_wrong_end_behind_more_than_most(self):
        start = "{ '" + "00" * 9000 + "'H"
        self.assertEqual(told("A ::= SEQUENCE OF OCTET STRING", "A", start + ", 1 }", 5), [-4])
        self.assertEqual(told("A ::= SEQUENCE OF OCTET STRING", "A", start + " }", 5), [-5])


class Most(PackCase):
    def test_just_as_many(self):
        for kind, value, text in (
                ("BOOLEAN", " TRUE ", "TRUE"), ("NULL", "NULL", "NULL"), ("INTEGER", "0", "0"), ("INTEGER", "-9 ", "-9"),
                ("ENUMERATED { a, ..., b-c }", " b-c", "b-c"), ("BIT STRING", "''B", "''B"),
                ("OCTET STRING", "--\n'0AF4'H", "'0AF4'H"), ("SEQUENCE { }", "{}", "{ }"),
                ("SEQUENCE OF NULL", "{NULL,NULL}", "{ NULL, NULL }"), ("CHOICE { a NULL }", "a:NULL", "a: NULL"),
                ("SEQUENCE { a NULL OPTIONAL, ..., b NULL }", "{b NULL}", "{ b NULL }")):
            for most in (len(text), len(text) + 1, 1048576):
                self.assertEqual(told(f"A ::= {kind}", "A", value, most), answer_of(text))
            for most in (0, len(text) // 2, len(text) - 1):
                self.assertEqual(told(f"A ::= {kind}", "A", value, most), [-5])

    def test_more_bytes_told_than_packed(self):
        for kind, value, bytes_packed in (("BIT STRING (SIZE (8))", "'10101010'B", 1), ("SEQUENCE { a NULL }", "{ a NULL }", 1),
                                          ("OCTET STRING", "'0102'H", 3)):
            for most in range(bytes_packed, len(value)):
                self.assertEqual(packed(f"A ::= {kind}", "A", value, most)[0], bytes_packed)
                self.assertEqual(told(f"A ::= {kind}", "A", value, most), [-5])

    def test_fewer_bytes_told_than_packed(self):
        optional = ", ".join(f"n{place} NULL OPTIONAL" for place in range(100))
        for kind, value, bytes_packed in (("INTEGER (-9223372036854775808..MAX)", "0", 9),
                                          ("INTEGER (-9223372036854775808..9223372036854775807)", "-1", 8),
                                          ("SEQUENCE { " + optional + " }", "{ }", 13)):
            self.assertEqual(packed(f"A ::= {kind}", "A", value)[0], bytes_packed)
            for most in range(len(value), bytes_packed):
                self.assertEqual(packed(f"A ::= {kind}", "A", value, most), [-5])
                self.assertEqual(told(f"A ::= {kind}", "A", value, most), answer_of(value))

    def test_blanks_of_the_text_handed_in_do_not_count(self):
        self.assertEqual(told("A ::= NULL", "A", " " * 1000 + "NULL" + "\n--" + "x" * 1000, 4), answer_of("NULL"))
        self.assertEqual(told("A ::= SEQUENCE OF NULL", "A", "{NULL,NULL}", 13), [-5])
        self.assertEqual(told("A ::= SEQUENCE OF NULL", "A", "{NULL,NULL}", 14), answer_of("{ NULL, NULL }"))

    def test_more_packed_than_pack_may_answer(self):
        absent = "B ::= SEQUENCE { " + ",".join(f"n{place} NULL OPTIONAL" for place in range(3072)) + " }"
        text = "A ::= SEQUENCE OF B " + absent
        value = "{ " + ", ".join(["{ }"] * 3000) + " }"
        self.assertEqual(packed(text, "A", value), [-5])
        self.same(told(text, "A", value), answer_of(value), value)


class Long(PackCase):
    def quick(self, schema_text, value_text, text, most=MOST):
        self.assertLessEqual(max(len(schema_text), len(value_text)), 65536)
        before = time.process_time()
        answer = told(schema_text, "A", value_text, most)
        self.assertLess(time.process_time() - before, 8)
        self.same(answer, answer_of(text) if isinstance(text, str) else text, schema_text, value_text)

    def test_longest_texts(self):
        start = "A ::= BOOLEAN "
        for filling in (" " * 65536, "\n" * 65536, "-- " + "x" * 65536, "--\n\n" * 16384):
            self.quick((start + filling)[:65536], ("TRUE " + filling)[:65535] + "\n", "TRUE")
        for wrong in ("TRUE" + "x" * 65532, "'" * 65536, "9" * 65536, "-" * 65536):
            self.quick(start, wrong, [-4])
        self.quick("9" * 65536, "9" * 65536, [-3], MOST + 1)

    def test_longest_strings(self):
        self.quick("A ::= BIT STRING", "'" + "10" * 32766 + "1'B", "'" + "10" * 32766 + "1'B")
        self.quick("A ::= OCTET STRING", "'" + "A7" * 32766 + "'H ", "'" + "A7" * 32766 + "'H")

    def test_longer_than_what_is_handed_in(self):
        for kind, item, text, count in (("INTEGER", "0", "0", 32767), ("SEQUENCE OF NULL", "{}", "{ }", 21844),
                                        ("CHOICE { a INTEGER }", "a:0", "a: 0", 16383), ("SEQUENCE { }", "{}", "{ }", 21844)):
            value, whole = "{" + ",".join([item] * count) + "}", "{ " + ", ".join([text] * count) + " }"
            self.assertGreater(len(whole), 65536)
            self.quick(f"A ::= SEQUENCE OF {kind}", value, whole)
            self.quick(f"A ::= SEQUENCE OF {kind}", value, whole, len(whole))
            self.quick(f"A ::= SEQUENCE OF {kind}", value, [-5], len(whole) - 1)

    def test_long_and_deep(self):
        for start, end, opens, closes, told_opens, told_closes in (
                ("CHOICE { a ", " }", "a:", "", "a: ", ""), ("SEQUENCE { a ", " }", "{a", "}", "{ a ", " }"),
                ("SEQUENCE OF ", "", "{", "}", "{ ", " }"), ("CHOICE { b NULL, ..., a ", " }", "a:", "", "a: ", ""),
                ("SEQUENCE { b NULL OPTIONAL, ..., a ", " }", "{a", "}", "{ a ", " }")):
            text = "A ::= " + start * 63 + "SEQUENCE OF SEQUENCE { }" + end * 63
            value = opens * 63 + "{" + ",".join(["{}"] * 21780) + "}" + closes * 63
            whole = told_opens * 63 + "{ " + ", ".join(["{ }"] * 21780) + " }" + told_closes * 63
            self.quick(text, value, whole)

    def test_many_deep_ones(self):
        text = "A ::= SEQUENCE OF " + "SEQUENCE OF " * 63 + "SEQUENCE { }"
        one = "{" * 64 + "}" * 64
        value = "{" + ",".join([one] * 508) + "}"
        whole = "{ " + ", ".join(["{ " * 64 + "}" + " }" * 63] * 508) + " }"
        self.quick(text, value, whole)

    def test_many_parts(self):
        text = "A ::= SEQUENCE { " + ",".join(f"n{place} B" for place in range(7000)) + " } B ::= NULL"
        value = "{" + ",".join(f"n{place} NULL" for place in range(5000)) + "}"
        self.quick(text, value, [-4])
        text = "A ::= SEQUENCE { " + ",".join(f"n{place} B" for place in range(5000)) + " } B ::= NULL"
        self.quick(text, value, "{ " + ", ".join(f"n{place} NULL" for place in range(5000)) + " }")

    def test_long_names(self):
        name = "n" + "x" * 63
        text = f"A ::= SEQUENCE OF CHOICE {{ {name} ENUMERATED {{ {name} }} }}"
        value = "{" + ",".join([f"{name}:{name}"] * 500) + "}"
        self.quick(text, value, "{ " + ", ".join([f"{name}: {name}"] * 500) + " }")

    def test_deep_schemas(self):
        self.quick("A ::= " + "SEQUENCE OF " * 5460 + "NULL", "{}", "{ }")
        self.quick("A ::= " + "SEQUENCE OF " * 5460 + "NULL", "{" * 5460 + "}" * 5460, [-4], MOST + 1)


class Untouched(PackCase):
    CASES = (
        (MOST, "A ::= SEQUENCE { a INTEGER, ..., b A }", "A", "{a 1,b{a 2}}"),
        (MOST, "A ::= SEQUENCE OF B B ::= ENUMERATED { a, ..., b }", "A", "{a,b}"),
        (MOST, "A ::= NULL", "B", "NULL"),
        (MOST, "A ::= NULL", "A", "TRUE"),
        (MOST, "A ::= ", "A", "NULL"),
        (MOST + 1, "A ::= ", "A", "NULL"),
        (MOST + 1, "A ::= NULL", "A", "TRUE"),
        (MOST + 1, "A ::= NULL", "A", "NULL"),
        (0, "A ::= NULL", "A", "NULL"),
        (MOST, "A ::= BOOLEAN", "A", "TRUE"),
        (MOST, "A ::= A", "A", "NULL"),
        (6, "A ::= OCTET STRING", "A", "'0102'H"),
        (7, "A ::= OCTET STRING", "A", "'0102'H"),
    )

    def test_what_is_handed_in_stays(self):
        for most, *texts in self.CASES:
            given = [codes(text) for text in texts]
            copies = [list(text) for text in given]
            tell(most, *given)
            self.assertEqual(given, copies)

    def test_one_list_for_all(self):
        text = codes("A ::= NULL")
        self.assertEqual(tell(5, text, text, text), [-3])
        self.assertEqual(text, codes("A ::= NULL"))

    def test_answers_do_not_hang_on_earlier_calls(self):
        def answers(cases):
            return [told(*texts, most) for most, *texts in cases]
        first = answers(self.CASES)
        self.assertEqual(first[0], answer_of("{ a 1, b { a 2 } }"))
        self.assertEqual(first[2:9], [[-3], [-4], [-3], [-3], [-4], [-1], [-5]])
        self.assertEqual(first[-1], answer_of("'0102'H"))
        for answer in answers(self.CASES):
            answer.append(7)
            answer[0] = 9
        for case in self.CASES:
            for before, (most, *texts) in enumerate(self.CASES):
                told(*case[1:], case[0])
                self.assertEqual(told(*texts, most), first[before])
        for most, *texts in self.CASES:
            pack(most, *[codes(text) for text in texts])
            schema(codes(texts[0]))
            self.assertEqual(answers(self.CASES[::-1]), first[::-1])

    def test_the_other_calls_do_not_hang_on_tell(self):
        def others():
            return [(packed(*texts, most), schema(codes(texts[0]))) for most, *texts in self.CASES]
        first = others()
        for most, *texts in self.CASES:
            told(*texts, most)
            self.assertEqual(others(), first)

    def test_whole_numbers_alone(self):
        for most, *texts in self.CASES:
            answer = told(*texts, most)
            self.assertIs(type(answer), list)
            for number in answer:
                self.assertIs(type(number), int)
            self.assertEqual(len(answer), 1 + max(0, answer[0]))


if __name__ == "__main__":
    unittest.main()
