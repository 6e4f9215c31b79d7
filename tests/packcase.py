"""What the tests of pack share: texts in and out, and bits written by hand."""

import unittest

from thinbits.packing import pack

MOST = 1048576


def codes(text):
    return list(text.encode("latin-1"))


def packed(schema_text, name, value_text, most=MOST):
    return pack(most, codes(schema_text), codes(name), codes(value_text))


def bytes_of(bits):
    """The bytes of bits written by hand, blanks between them as one likes; filled up with 0."""
    digits = bits.replace(" ", "")
    digits += "0" * (-len(digits) % 8) if digits else "0" * 8
    return [int(digits[start:start + 8], 2) for start in range(0, len(digits), 8)]


class PackCase(unittest.TestCase):
    def bits(self, schema_text, value_text, bits):
        """The value of the schema's A has these bits."""
        made = bytes_of(bits)
        answer = packed(schema_text, "A", value_text)
        if answer != [len(made)] + made:
            self.fail(f"{schema_text[:200]}: {value_text[:200]}: {answer[:20]}, not {([len(made)] + made)[:20]}")

    def kind_bits(self, kind, *pairs):
        for value, bits in pairs:
            self.bits(f"A ::= {kind}", value, bits)

    def no_value(self, kind, *values):
        for value in values:
            self.assertEqual(packed(f"A ::= {kind}", "A", value), [-4], (kind[:200], value[:200]))
