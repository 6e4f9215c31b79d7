"""Numbers and counts as bits. Bits are a text of 0 and 1, the highest first."""

from thinbits.errors import TooLong

BYTE = 8
SHORT_COUNT = 128
RUN = 16384
MOST_RUNS = 4
FEW = 64


class Bits:
    """Bits that are put behind each other; TooLong once there are more than most."""

    def __init__(self, most):
        self.most = most
        self.length = 0
        self.pieces = []

    def put(self, digits):
        self.length += len(digits)
        if self.length > self.most:
            raise TooLong("there are too many bits")
        self.pieces.append(digits)

    def fill(self):
        """Fills up with 0 to bytes, and gives them all."""
        count = max(1, bytes_for(self.length))
        self.put("0" * (count * BYTE - self.length))
        return "".join(self.pieces)


def bytes_for(width):
    return (width + BYTE - 1) // BYTE


def number_bits(number, width):
    """The lowest bits of a number, so many; one below 0 is complemented by two."""
    return "".join(["1" if (number >> place) & 1 else "0" for place in range(width - 1, -1, -1)])


def number_below(number, count):
    return number_bits(number, (count - 1).bit_length())


def unsigned_bytes(number):
    count = max(1, bytes_for(number.bit_length()))
    return number_bits(number, count * BYTE)


def signed_bytes(number):
    # One bit more than the number has: the sign.
    width = 1 + (number if number >= 0 else -1 - number).bit_length()
    return number_bits(number, bytes_for(width) * BYTE)


def count_bits(count):
    """How many there are, where these are fewer than a run has."""
    if count < SHORT_COUNT:
        return "0" + number_bits(count, 7)
    return "10" + number_bits(count, 14)


def counted_stretches(count):
    """The stretches that items are counted in: of each the bits ahead of it, where it starts, and where it ends."""
    stretches = []
    start = 0
    while count - start >= RUN:
        runs = min((count - start) // RUN, MOST_RUNS)
        end = start + runs * RUN
        stretches.append(("11" + number_bits(runs, 6), start, end))
        start = end
    stretches.append((count_bits(count - start), start, count))
    return stretches


def counted_bytes(digits):
    stretches = counted_stretches(len(digits) // BYTE)
    return "".join([ahead + digits[start * BYTE:end * BYTE] for ahead, start, end in stretches])


def few(number):
    if number < FEW:
        return "0" + number_bits(number, 6)
    return "1" + counted_bytes(unsigned_bytes(number))
