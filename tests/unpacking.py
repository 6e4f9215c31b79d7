"""The way back, for tests alone: told text from bytes. It takes only the one form that each value has."""


class Wrong(Exception):
    pass


def need(holds):
    if not holds:
        raise Wrong


class Stream:
    def __init__(self, numbers):
        self.digits = "".join(f"{number:08b}" for number in numbers)
        self.at = 0

    def take(self, count):
        taken = self.digits[self.at:self.at + count]
        need(len(taken) == count)
        self.at += count
        return taken

    def number(self, width):
        return int(self.take(width) or "0", 2)

    def below(self, count):
        width = 0
        while 2 ** width < count:
            width += 1
        number = self.number(width)
        need(number < count)
        return number

    def counted(self, item):
        items = []
        while True:
            if self.number(1) == 0:
                return items + [item() for turn in range(self.number(7))]
            if self.number(1) == 0:
                count = self.number(14)
                need(count >= 128)
                return items + [item() for turn in range(count)]
            runs = self.number(6)
            need(1 <= runs <= 4)
            items += [item() for turn in range(runs * 16384)]
            # A shorter stretch is the last one.
            if runs < 4:
                need(self.digits[self.at:self.at + 2] != "11")

    def counted_bytes(self):
        return bytes(self.counted(lambda: self.number(8)))

    def unsigned(self):
        taken = self.counted_bytes()
        need(len(taken) == 1 or len(taken) > 1 and taken[0] > 0)
        return int.from_bytes(taken, "big")

    def signed(self):
        taken = self.counted_bytes()
        need(taken)
        number = int.from_bytes(taken, "big", signed=True)
        if len(taken) > 1:
            shorter = (len(taken) - 1) * 8 - 1
            need(not -2 ** shorter <= number < 2 ** shorter)
        return number

    def few(self):
        if self.number(1) == 0:
            return self.number(6)
        number = self.unsigned()
        need(number >= 64)
        return number

    def end(self):
        """Only what fills up is left."""
        rest = self.digits[self.at:]
        need(set(rest) <= {"0"} and (len(rest) < 8 or self.at == 0 and len(rest) == 8))


def told_by_itself(kinds, kind, stream):
    inner = Stream(stream.counted_bytes())
    text = told(kinds, kind, inner)
    inner.end()
    return text


def told_items(size, stream, item):
    low, high = size
    if high is None:
        items = stream.counted(item)
        need(len(items) >= (low or 0))
        return items
    return [item() for turn in range(low + stream.below(high - low + 1))]


def told_integer(bounds, stream):
    low, high = bounds
    if low is not None and high is not None:
        return low + stream.below(high - low + 1)
    number = stream.signed() if low is None else low + stream.unsigned()
    need(-2 ** 63 <= number < 2 ** 63 and (high is None or number <= high))
    return number


def chosen(roots, extensions, stream):
    """The place of a name, and whether it is an extension; extensions is None without dots."""
    if extensions is not None and stream.number(1):
        place = stream.few()
        need(place < len(extensions))
        return extensions[place], True
    return roots[stream.below(len(roots))], False


def told_sequence(kinds, roots, extensions, stream):
    extended = extensions is not None and stream.number(1) == 1
    there = [stream.number(1) == 1 if part[2] else True for part in roots]
    parts = [f"{part[0]} {told(kinds, part[1], stream)}" for part, is_there in zip(roots, there) if is_there]
    if extended:
        count = stream.number(6) + 1 if stream.number(1) == 0 else len(stream.counted(lambda: None))
        need(count == len(extensions))
        there = [stream.number(1) == 1 for part in extensions]
        need(any(there) and all(is_there or part[2] for part, is_there in zip(extensions, there)))
        parts += [f"{part[0]} {told_by_itself(kinds, part[1], stream)}"
                  for part, is_there in zip(extensions, there) if is_there]
    return parts


def told(kinds, kind, stream):
    """kind: ("name", N), ("BOOLEAN",), ("NULL",), ("INTEGER", low, high), ("ENUMERATED", names, names or None),
    ("BIT", low, high), ("OCTET", low, high), ("SEQUENCE OF", low, high, kind), and ("CHOICE", parts, parts or None),
    ("SEQUENCE", parts, parts or None) with parts (name, kind, whether it is OPTIONAL)."""
    form = kind[0]
    if form == "name":
        return told(kinds, kinds[kind[1]], stream)
    if form == "BOOLEAN":
        return ("FALSE", "TRUE")[stream.number(1)]
    if form == "NULL":
        return "NULL"
    if form == "INTEGER":
        return str(told_integer(kind[1:], stream))
    if form == "ENUMERATED":
        return chosen(kind[1], kind[2], stream)[0]
    if form == "BIT":
        return "'" + "".join(told_items(kind[1:], stream, lambda: stream.take(1))) + "'B"
    if form == "OCTET":
        return "'" + bytes(told_items(kind[1:], stream, lambda: stream.number(8))).hex().upper() + "'H"
    if form == "CHOICE":
        part, extension = chosen(kind[1], kind[2], stream)
        return f"{part[0]}: {(told_by_itself if extension else told)(kinds, part[1], stream)}"
    if form == "SEQUENCE":
        items = told_sequence(kinds, kind[1], kind[2], stream)
    else:
        items = told_items(kind[1:3], stream, lambda: told(kinds, kind[3], stream))
    return "{ " + ", ".join(items) + " }" if items else "{ }"


def unpacked(kinds, name, numbers):
    """The told text of the value that these bytes are."""
    stream = Stream(numbers)
    text = told(kinds, kinds[name], stream)
    stream.end()
    return text
