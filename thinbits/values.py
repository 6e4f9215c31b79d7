"""Reads a value's text, by the kind that it must be of.

What is read is, of BOOLEAN, True or False; of NULL None; of INTEGER the number; of ENUMERATED the name; of a string
its digits; of SEQUENCE a list of pairs, name and value, in their order; of SEQUENCE OF a list of values; of CHOICE
the pair of a name and its value. A kind that only names another adds nothing of its own.
"""

from thinbits.errors import WrongText
from thinbits.reader import Reader
from thinbits.schemas import LEAST_INTEGER, MOST_INTEGER, NAMED, SEQUENCE_OF
from thinbits.tokens import BITS, OCTETS, WORD, tokens_of

MOST_DEPTH = 64
DIGITS_OF_A_BYTE = 2


def deeper(depth):
    """How deep it is within one more; this also ends a kind that is only itself."""
    if depth == MOST_DEPTH:
        raise WrongText("too many stand within each other")
    return depth + 1


def check_bounds(kind, number):
    """The bounds of a number, and those of a size."""
    if kind.low is not None and number < kind.low:
        raise WrongText("this is below what it may be")
    if kind.high is not None and number > kind.high:
        raise WrongText("this is above what it may be")


def read_boolean(reader):
    if reader.skips_word("TRUE"):
        return True
    reader.needs_word("FALSE")
    return False


def read_null(reader):
    reader.needs_word("NULL")
    return None


def read_integer(reader, kind):
    number = reader.takes_number(LEAST_INTEGER, MOST_INTEGER)
    check_bounds(kind, number)
    return number


def read_name(reader, kind):
    name = reader.takes(WORD)
    if name not in kind.places:
        raise WrongText("there is no such name here")
    return name


def read_bits(reader, kind):
    digits = reader.takes(BITS)
    check_bounds(kind, len(digits))
    return digits


def read_octets(reader, kind):
    digits = reader.takes(OCTETS)
    check_bounds(kind, len(digits) // DIGITS_OF_A_BYTE)
    return digits


def next_item(reader, count):
    """Goes on in brackets, behind so many items: to the next one, or past the bracket that closes; tells which."""
    if reader.skips_sign("}"):
        return False
    if count > 0:
        reader.needs_sign(",")
    return True


def check_left_out(kind, start, end):
    """Whether the parts from start to before end may be left out; there are none if a part stands out of its order."""
    if end < start or kind.needed[end] > kind.needed[start]:
        raise WrongText("a part is missing, or not in its place")


def read_sequence(reader, kind, depth):
    reader.needs_sign("{")
    parts = []
    behind = 0
    while next_item(reader, len(parts)):
        name = read_name(reader, kind)
        place = kind.places[name]
        check_left_out(kind, behind, place)
        parts.append((name, read_value(reader, kind.parts[place], deeper(depth))))
        behind = place + 1
    # Extensions must be there only beside another one.
    check_left_out(kind, behind, len(kind.parts) if behind > kind.roots else kind.roots)
    return parts


def read_sequence_of(reader, kind, depth):
    reader.needs_sign("{")
    values = []
    while next_item(reader, len(values)):
        values.append(read_value(reader, kind.parts[0], deeper(depth)))
    check_bounds(kind, len(values))
    return values


def read_choice(reader, kind, depth):
    name = read_name(reader, kind)
    reader.needs_sign(":")
    return (name, read_value(reader, kind.parts[kind.places[name]], deeper(depth)))


def read_value(reader, kind, depth):
    """Reads a value of this kind that stands so deep."""
    form = kind.form
    if form == NAMED:
        return read_value(reader, kind.parts[0], deeper(depth))
    if form == "BOOLEAN":
        return read_boolean(reader)
    if form == "NULL":
        return read_null(reader)
    if form == "INTEGER":
        return read_integer(reader, kind)
    if form == "ENUMERATED":
        return read_name(reader, kind)
    if form == "BIT":
        return read_bits(reader, kind)
    if form == "OCTET":
        return read_octets(reader, kind)
    if form == "SEQUENCE":
        return read_sequence(reader, kind, depth)
    if form == SEQUENCE_OF:
        return read_sequence_of(reader, kind, depth)
    return read_choice(reader, kind, depth)


def read_value_text(text, kind):
    """The value of this kind that the text is; WrongText if it is none."""
    reader = Reader(tokens_of(text))
    value = read_value(reader, kind, 0)
    if not reader.ended():
        raise WrongText("something stands behind the value")
    return value
