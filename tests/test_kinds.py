"""What is read of a schema: each kind with its bounds, names and parts."""

import unittest

from thinbits.errors import WrongText
from thinbits.schemas import read_schema


def read(text):
    return read_schema(list(text.encode()))


def only(text):
    return read("A ::= " + text)["A"]


class Kinds(unittest.TestCase):
    def test_names_in_their_order(self):
        self.assertEqual(list(read("B ::= NULL A ::= B C ::= A")), ["B", "A", "C"])

    def test_plain_ones(self):
        for form in ("BOOLEAN", "NULL", "INTEGER"):
            kind = only(form)
            self.assertEqual((kind.form, kind.low, kind.high, kind.parts), (form, None, None, []))

    def test_named(self):
        kind = only("B B ::= NULL")
        self.assertEqual((kind.form, kind.target), ("a name", "B"))
        self.assertEqual([part.form for part in kind.parts], ["NULL"])

    def test_named_by_itself_and_from_ahead(self):
        kinds = read("A ::= A B ::= SEQUENCE OF C C ::= B")
        self.assertIs(kinds["A"].parts[0], kinds["A"])
        self.assertIs(kinds["B"].parts[0].parts[0], kinds["C"])
        self.assertIs(kinds["C"].parts[0], kinds["B"])

    def test_bounds(self):
        for text, low, high in (("(5)", 5, 5), ("(1..5)", 1, 5), ("(MIN..5)", None, 5), ("(-5..MAX)", -5, None),
                                ("(MIN..MAX)", None, None)):
            kind = only("INTEGER " + text)
            self.assertEqual((kind.low, kind.high), (low, high), text)

    def test_sizes(self):
        for text, low, high in (("", None, None), ("(SIZE (3))", 3, 3), ("(SIZE (0..4))", 0, 4),
                                ("(SIZE (2..MAX))", 2, None)):
            for form, kind in (("BIT", only("BIT STRING " + text)), ("OCTET", only("OCTET STRING " + text)),
                               ("SEQUENCE OF", only(f"SEQUENCE {text} OF NULL"))):
                self.assertEqual((kind.form, kind.low, kind.high), (form, low, high), text)

    def test_enumerated(self):
        for text, roots, extensible in (("b, a", 2, False), ("b, a, ...", 2, True), ("b, ..., a", 1, True)):
            kind = only(f"ENUMERATED {{ {text} }}")
            self.assertEqual(kind.places, {"b": 0, "a": 1})
            self.assertEqual((kind.roots, kind.extensible), (roots, extensible))

    def test_sequence(self):
        kind = only("SEQUENCE { a BOOLEAN, b NULL OPTIONAL, ..., c INTEGER, d SEQUENCE { e NULL } OPTIONAL }")
        self.assertEqual(kind.places, {"a": 0, "b": 1, "c": 2, "d": 3})
        self.assertEqual([part.form for part in kind.parts], ["BOOLEAN", "NULL", "INTEGER", "SEQUENCE"])
        self.assertEqual(kind.needed, [0, 1, 1, 2, 2])
        self.assertEqual((kind.roots, kind.extensible, kind.waits), (2, True, False))
        self.assertEqual(kind.parts[3].places, {"e": 0})

    def test_empty_sequence(self):
        for text, extensible in (("{ }", False), ("{ ... }", True)):
            kind = only("SEQUENCE " + text)
            self.assertEqual((kind.form, kind.parts, kind.roots, kind.extensible), ("SEQUENCE", [], 0, extensible))

    def test_choice(self):
        kind = only("CHOICE { a BOOLEAN, b CHOICE { a NULL, ... }, ..., c B } B ::= NULL")
        self.assertEqual(kind.places, {"a": 0, "b": 1, "c": 2})
        self.assertEqual([part.form for part in kind.parts], ["BOOLEAN", "CHOICE", "a name"])
        self.assertEqual((kind.roots, kind.extensible), (2, True))
        self.assertEqual((kind.parts[1].roots, kind.parts[1].extensible), (1, True))

    def test_sequence_of(self):
        kind = only("SEQUENCE OF SEQUENCE (SIZE (2)) OF INTEGER (3)")
        self.assertEqual((kind.form, kind.parts[0].form, kind.parts[0].parts[0].form),
                         ("SEQUENCE OF", "SEQUENCE OF", "INTEGER"))
        self.assertEqual((kind.low, kind.parts[0].low, kind.parts[0].parts[0].low), (None, 2, 3))

    def test_wrong(self):
        for text in ("", "A ::= B", "A ::= INTEGER (2..1)", "A ::= '"):
            with self.assertRaises(WrongText):
                read(text)


if __name__ == "__main__":
    unittest.main()
