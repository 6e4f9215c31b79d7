"""Turns a value, as it was read, into bits."""

from thinbits.bits import BYTE, FEW, Bits, count_bits, counted_bytes, counted_stretches, few, number_below
from thinbits.bits import signed_bytes, unsigned_bytes
from thinbits.schemas import NAMED, SEQUENCE_OF

OCTET_DIGIT_BITS = {
    "0": "0000", "1": "0001", "2": "0010", "3": "0011", "4": "0100", "5": "0101", "6": "0110", "7": "0111",
    "8": "1000", "9": "1001", "A": "1010", "B": "1011", "C": "1100", "D": "1101", "E": "1110", "F": "1111",
}


def integer_bits(kind, number):
    if kind.low is None:
        return counted_bytes(signed_bytes(number))
    if kind.high is None:
        return counted_bytes(unsigned_bytes(number - kind.low))
    return number_below(number - kind.low, kind.high - kind.low + 1)


def place_bits(kind, place):
    """The place of a name of ENUMERATED or CHOICE."""
    if place >= kind.roots:
        return "1" + few(place - kind.roots)
    mark = "0" if kind.extensible else ""
    return mark + number_below(place, kind.roots)


def stretches_of(kind, count):
    """The items of a string or SEQUENCE OF in stretches; with a greatest size in one."""
    if kind.high is None:
        return counted_stretches(count)
    return [(number_below(count - kind.low, kind.high - kind.low + 1), 0, count)]


def octet_bits(digits):
    return "".join([OCTET_DIGIT_BITS[digit] for digit in digits])


def write_string(bits, kind, digits, width):
    """A string of items that have so many bits each."""
    for ahead, start, end in stretches_of(kind, len(digits) // width):
        bits.put(ahead)
        bits.put(digits[start * width:end * width])


def write_sequence_of(bits, kind, values):
    for ahead, start, end in stretches_of(kind, len(values)):
        bits.put(ahead)
        for value in values[start:end]:
            write_value(bits, kind.parts[0], value)


def write_by_itself(bits, kind, value):
    inner = Bits(bits.most)
    write_value(inner, kind, value)
    bits.put(counted_bytes(inner.fill()))


def write_marks(bits, places, count):
    """A bit for each of so many, 1 at these places; these are in their order."""
    behind = 0
    for place in places:
        bits.put("0" * (place - behind) + "1")
        behind = place + 1
    bits.put("0" * (count - behind))


def is_optional(kind, place):
    return kind.needed[place + 1] == kind.needed[place]


def write_extensions(bits, kind, extensions):
    count = len(kind.parts) - kind.roots
    # Few of the number less 1; but where that would be counted bytes, the number itself is counted.
    bits.put(few(count - 1) if count - 1 < FEW else "1" + count_bits(count))
    write_marks(bits, [place - kind.roots for place, value in extensions], count)
    for place, value in extensions:
        write_by_itself(bits, kind.parts[place], value)


def write_sequence(bits, kind, parts):
    placed = [(kind.places[name], value) for name, value in parts]
    roots = [pair for pair in placed if pair[0] < kind.roots]
    extensions = placed[len(roots):]
    if kind.extensible:
        bits.put("1" if len(extensions) > 0 else "0")
    # An OPTIONAL part's place among those: its own, less the others before it.
    marked = [place - kind.needed[place] for place, value in roots if is_optional(kind, place)]
    write_marks(bits, marked, kind.roots - kind.needed[kind.roots])
    for place, value in roots:
        write_value(bits, kind.parts[place], value)
    if len(extensions) > 0:
        write_extensions(bits, kind, extensions)


def write_choice(bits, kind, chosen):
    place = kind.places[chosen[0]]
    bits.put(place_bits(kind, place))
    if place < kind.roots:
        write_value(bits, kind.parts[place], chosen[1])
    else:
        write_by_itself(bits, kind.parts[place], chosen[1])


def write_value(bits, kind, value):
    form = kind.form
    if form == NAMED:
        write_value(bits, kind.parts[0], value)
    elif form == "BOOLEAN":
        bits.put("1" if value else "0")
    elif form == "INTEGER":
        bits.put(integer_bits(kind, value))
    elif form == "ENUMERATED":
        bits.put(place_bits(kind, kind.places[value]))
    elif form == "BIT":
        write_string(bits, kind, value, 1)
    elif form == "OCTET":
        write_string(bits, kind, octet_bits(value), BYTE)
    elif form == "SEQUENCE":
        write_sequence(bits, kind, value)
    elif form == SEQUENCE_OF:
        write_sequence_of(bits, kind, value)
    elif form == "CHOICE":
        write_choice(bits, kind, value)


def packed_bytes(kind, value, most):
    """The bytes of a value; TooLong if there are more than most."""
    bits = Bits(most * BYTE)
    write_value(bits, kind, value)
    digits = bits.fill()
    return [int(digits[start:start + BYTE], 2) for start in range(0, len(digits), BYTE)]
