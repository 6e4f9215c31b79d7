"""What the tests of pack and tell share: texts in and out, and bits written by hand."""

import unittest

from thinbits.packing import pack, tell

MOST = 1048576


def codes(text):
    return list(text.encode("latin-1"))


def packed(schema_text, name, value_text, most=MOST):
    return pack(most, codes(schema_text), codes(name), codes(value_text))


def told(schema_text, name, value_text, most=MOST):
    return tell(most, codes(schema_text), codes(name), codes(value_text))


def answer_of(text):
    """What tell answers where this is the told text."""
    return [len(text)] + codes(text)


def bytes_of(bits):
    """The bytes of bits written by hand, blanks between them as one likes; filled up with 0."""
    digits = bits.replace(" ", "")
    digits += "0" * (-len(digits) % 8) if digits else "0" * 8
    return [int(digits[start:start + 8], 2) for start in range(0, len(digits), 8)]


class PackCase(unittest.TestCase):
    def same(self, answer, expected, *where):
        """As assertEqual, which takes many minutes to show where long lists differ."""
        if answer != expected:
            self.fail(f"{[text[:200] for text in where]}: {answer[:20]}, not {expected[:20]}")

    def bits(self, schema_text, value_text, bits):
        """The value of the schema's A has these bits."""
        made = bytes_of(bits)
        self.same(packed(schema_text, "A", value_text), [len(made)] + made, schema_text, value_text)

    def kind_bits(self, kind, *pairs):
        for value, bits in pairs:
            self.bits(f"A ::= {kind}", value, bits)

    def tells(self, schema_text, value_text, text):
        """The value of the schema's A is told so; and what is told is told the same, and packed the same."""
        self.same(told(schema_text, "A", value_text), answer_of(text), schema_text, value_text)
        self.same(told(schema_text, "A", text), answer_of(text), schema_text, text)
        self.same(packed(schema_text, "A", text), packed(schema_text, "A", value_text), schema_text, text)

    def kind_tells(self, kind, *pairs):
        for value, text in pairs:
            self.tells(f"A ::= {kind}", value, text)

    def refused(self, refusal, *texts):
        """Neither pack nor tell takes these; of tell, -3 and -4 go ahead of -1 and -5."""
        where = [text[:200] for text in texts]
        self.assertEqual(packed(*texts), [refusal], where)
        for most in (0, MOST, MOST + 1, 4294967295):
            self.assertEqual(told(*texts, most), [refusal], where)

    def no_value(self, kind, *values):
        for value in values:
            self.refused(-4, f"A ::= {kind}", "A", value)
