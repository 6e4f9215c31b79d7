"""Random schemas and values: the bytes that pack makes lead back to the value, by a second program in tests alone.

What tell tells is the text that they lead back to.
"""

import random
import re
import unittest

from packcase import MOST, PackCase, answer_of, packed, told
from unpacking import unpacked

LEAST, GREATEST = -2 ** 63, 2 ** 63 - 1
EDGES = sorted({sign * (2 ** power + step) for power in (0, 1, 3, 6, 7, 8, 15, 16, 31, 32, 55, 56, 62, 63)
                for step in (-1, 0, 1) for sign in (-1, 1)})


def size_text(low, high):
    if low is None:
        return ""
    return f" (SIZE ({low}))" if low == high else f" (SIZE ({low}..{'MAX' if high is None else high}))"


def listed(items, extensions):
    """What stands in a schema's brackets."""
    if extensions is not None:
        items = items + ["..."] + extensions
    return "{ " + ", ".join(items) + " }" if items else "{ }"


def part_texts(parts):
    return None if parts is None else [f"{name} {kind_text(kind)}{' OPTIONAL' * free}" for name, kind, free in parts]


def kind_text(kind):
    form = kind[0]
    if form == "name":
        return kind[1]
    if form == "INTEGER" and kind[1] is not None and kind[1] == kind[2]:
        return f"INTEGER ({kind[1]})"
    if form == "INTEGER" and kind[1:] != (None, None):
        return f"INTEGER ({'MIN' if kind[1] is None else kind[1]}..{'MAX' if kind[2] is None else kind[2]})"
    if form == "ENUMERATED":
        return "ENUMERATED " + listed(kind[1], kind[2])
    if form in ("BIT", "OCTET"):
        return f"{form} STRING{size_text(*kind[1:])}"
    if form == "SEQUENCE OF":
        return f"SEQUENCE{size_text(*kind[1:3])} OF {kind_text(kind[3])}"
    if form in ("CHOICE", "SEQUENCE"):
        return f"{form} " + listed(part_texts(kind[1]), part_texts(kind[2]))
    return form


class Maker:
    def __init__(self, seed):
        self.dice = random.Random(seed)
        self.kinds = {}

    def schema(self):
        names = ["A", "B", "C-1"]
        for name in names:
            self.kinds[name] = self.kind(3, names)
        return "\n".join(f"{name} ::= {kind_text(kind)}" for name, kind in self.kinds.items())

    def bounds(self, pool):
        low, high = sorted(self.dice.choices(pool, k=2))
        return self.dice.choice([(low, high), (low, high), (low, low), (low, None)])

    def size(self):
        if self.dice.randrange(3) == 0:
            return None, None
        return self.bounds([0, 0, 1, 2, 3, 4, 5, 8, 127, 128, 255, 256, 65535])

    def integer(self):
        low, high = self.bounds([edge for edge in EDGES if LEAST <= edge <= GREATEST])
        return self.dice.choice([("INTEGER", None, None), ("INTEGER", None, high), ("INTEGER", low, high)])

    def cut(self, parts, fewest):
        """Roots and extensions."""
        if self.dice.randrange(2):
            return parts, None
        place = self.dice.randint(fewest, len(parts)) if parts else 0
        return parts[:place], parts[place:]

    def names(self, fewest):
        count = self.dice.choice([fewest, 1, 2, 3, 4, 5, self.dice.choice([9, 17, 70, 140])])
        return [self.dice.choice("abxyz") + f"{place}" for place in range(count)]

    def parts(self, deep, names, fewest, free):
        found = self.names(fewest)
        deep = 0 if len(found) > 8 else deep
        return [(name, self.kind(deep, names), bool(free and self.dice.randrange(2))) for name in found]

    def kind(self, deep, names):
        form = self.dice.randrange(12 if deep else 6)
        if form == 0:
            return ("BOOLEAN",) if self.dice.randrange(3) else ("NULL",)
        if form in (1, 2):
            return self.integer()
        if form == 3:
            return ("ENUMERATED",) + self.cut(self.names(1), 1)
        if form == 4:
            return (self.dice.choice(["BIT", "OCTET"]),) + self.size()
        if form == 5:
            return ("name", self.dice.choice(names))
        if form in (6, 7):
            return ("SEQUENCE OF",) + self.size() + (self.kind(deep - 1, names),)
        if form in (8, 9):
            return ("CHOICE",) + self.cut(self.parts(deep - 1, names, 1, False), 1)
        return ("SEQUENCE",) + self.cut(self.parts(deep - 1, names, 0, True), 1)

    def count(self, low, high, depth):
        low = low or 0
        most = low + (3 if depth > 6 else self.dice.choice([0, 1, 2, 5]))
        return self.dice.randint(low, most if high is None else min(most, high))

    def integer_value(self, low, high):
        low = LEAST if low is None else low
        high = GREATEST if high is None else high
        near = [edge + base for edge in EDGES for base in (0, low)]
        return self.dice.choice([number for number in near + [low, high] if low <= number <= high])

    def value(self, kind, depth):
        """A value's told text; TooDeep where there is none, or none was found."""
        form = kind[0]
        if depth > 64 or depth > 12 and self.dice.randrange(20) == 0:
            raise TooDeep
        if form == "name":
            return self.value(self.kinds[kind[1]], depth + 1)
        if form == "BOOLEAN":
            return self.dice.choice(["TRUE", "FALSE"])
        if form == "NULL":
            return "NULL"
        if form == "INTEGER":
            return str(self.integer_value(*kind[1:]))
        if form == "ENUMERATED":
            return self.dice.choice(kind[1] + (kind[2] or []))
        if form == "BIT":
            return "'" + "".join(self.dice.choices("01", k=self.count(kind[1], kind[2], depth))) + "'B"
        if form == "OCTET":
            return "'" + "".join(self.dice.choices("0123456789ABCDEF", k=2 * self.count(kind[1], kind[2], depth))) + "'H"
        if form == "CHOICE":
            part = self.dice.choice(kind[1] + (kind[2] or []))
            return f"{part[0]}: {self.value(part[1], depth + 1)}"
        if form == "SEQUENCE OF":
            count = self.count(kind[1], kind[2], depth)
            if count > 300:
                raise TooDeep
            items = [self.value(kind[3], depth + 1) for turn in range(count)]
        else:
            items = [f"{name} {self.value(inner, depth + 1)}" for name, inner, free in self.there(kind, depth)]
        return "{ " + ", ".join(items) + " }" if items else "{ }"

    def there(self, kind, depth):
        odds = 8 if depth > 4 else 2
        extended = kind[2] and self.dice.randrange(odds) == 0
        return [part for part in kind[1] + (kind[2] if extended else [])
                if not part[2] or self.dice.randrange(odds) == 0]


class TooDeep(Exception):
    pass


def tokens_of(text):
    return re.findall(r"'[0-9A-F]*'[BH]|[A-Za-z][-A-Za-z0-9]*|-?[0-9]+|[{},:]", text)


class Fit:
    """Whether tokens are a value: a second reader, which first cuts brackets into their items."""

    def __init__(self, kinds):
        self.kinds = kinds

    def items(self, tokens):
        """The items between brackets, or None."""
        if len(tokens) < 2 or tokens[0] != "{" or tokens[-1] != "}":
            return None
        items, level = [[]], 0
        for token in tokens[1:-1]:
            level += {"{": 1, "}": -1}.get(token, 0)
            if level < 0:
                return None
            if token == "," and level == 0:
                items.append([])
            else:
                items[-1].append(token)
        return [] if items == [[]] else items

    def sized(self, count, low, high):
        return count >= (low or 0) and (high is None or count <= high)

    def sequence(self, kind, items, depth):
        parts = kind[1] + (kind[2] or [])
        order = [part[0] for part in parts]
        there = [item[0] if item else None for item in items]
        if there != [name for name in order if name in there]:
            return False
        extended = any(part[0] in there for part in kind[2] or [])
        needed = [part[0] for part in (parts if extended else kind[1]) if not part[2]]
        return set(needed) <= set(there) and all(
            self.fits(parts[order.index(item[0])][1], item[1:], depth) for item in items)

    def fits(self, kind, tokens, depth=0):
        form = kind[0]
        if depth > 64:
            return False
        if form == "name":
            return self.fits(self.kinds[kind[1]], tokens, depth + 1)
        if form == "CHOICE":
            chosen = dict((part[0], part[1]) for part in kind[1] + (kind[2] or []))
            return (len(tokens) > 2 and tokens[0] in chosen and tokens[1] == ":"
                    and self.fits(chosen[tokens[0]], tokens[2:], depth + 1))
        if form in ("SEQUENCE", "SEQUENCE OF"):
            items = self.items(tokens)
            if items is None or items and depth == 64:
                return False
            if form == "SEQUENCE":
                return self.sequence(kind, items, depth + 1)
            return self.sized(len(items), kind[1], kind[2]) and all(
                self.fits(kind[3], item, depth + 1) for item in items)
        return len(tokens) == 1 and self.fits_one(kind, tokens[0])

    def fits_one(self, kind, token):
        form = kind[0]
        if form == "BOOLEAN":
            return token in ("TRUE", "FALSE")
        if form == "NULL":
            return token == "NULL"
        if form == "INTEGER":
            low = LEAST if kind[1] is None else kind[1]
            high = GREATEST if kind[2] is None else kind[2]
            return re.match("-?[0-9]", token) is not None and low <= int(token) <= high
        if form == "ENUMERATED":
            return token in kind[1] + (kind[2] or [])
        ending, width = ("'B", 1) if form == "BIT" else ("'H", 2)
        return token.endswith(ending) and self.sized((len(token) - 3) // width, kind[1], kind[2])


def spread(dice, text):
    """The same tokens, with other blanks and remarks between them."""
    tokens = tokens_of(text)
    return "".join(token + dice.choice([" ", "\n", "\t\r", " -- { x\n", " --\n\n"]) for token in tokens)


def changed_tokens(dice, tokens):
    changed = list(tokens)
    start = dice.randrange(len(tokens) + 1)
    if dice.randrange(3) == 0:
        # A stretch goes, or moves elsewhere.
        end = min(len(tokens), start + dice.choice([1, 2, 3, 4, 8]))
        moved = changed[start:end]
        del changed[start:end]
        place = dice.randrange(len(changed) + 1)
        changed[place:place] = dice.choice([[], moved])
        return changed
    others = [dice.choice(tokens), "{", "}", ",", "0", "-1", "127", "128", "TRUE", "NULL", "''B", "''H", "'01'B", "'01'H", ":"]
    changed[start:start + dice.randrange(2)] = dice.choice([[dice.choice(others)], [dice.choice(others)], ["{", "}"]])
    return changed


class RandomValues(PackCase):
    def test_there_and_back(self):
        done = 0
        for seed in range(500):
            maker = Maker(seed)
            schema = maker.schema()
            for name in maker.kinds:
                try:
                    text = maker.value(maker.kinds[name], 0)
                except TooDeep:
                    continue
                if len(schema) > 65536 or len(text) > 30000:
                    continue
                self.assertTrue(Fit(maker.kinds).fits(maker.kinds[name], tokens_of(text)), (seed, schema, name, text))
                answer = packed(schema, name, text)
                self.assertEqual(answer[0], len(answer) - 1, (seed, schema, name, text))
                self.assertEqual(unpacked(maker.kinds, name, answer[1:]), text, (seed, schema, name))
                spread_text = spread(maker.dice, text)
                self.assertEqual(packed(schema, name, spread_text), answer, (seed, schema, name, text))
                for value in (text, spread_text):
                    self.same(told(schema, name, value), answer_of(text), schema, name, value)
                self.same(told(schema, name, spread_text, len(text)), answer_of(text), schema, name, text)
                self.same(told(schema, name, spread_text, len(text) - 1), [-5], schema, name, text)
                done += 1
        self.assertGreater(done, 700)

    def test_changed_values(self):
        """A value with something left out, added or changed is refused, unless it is another value."""
        taken = refused = 0
        for seed in range(600):
            maker = Maker(seed)
            schema = maker.schema()
            try:
                text = maker.value(maker.kinds["A"], 0)
            except TooDeep:
                continue
            if len(text) > 1000:
                continue
            fit = Fit(maker.kinds)
            tokens = tokens_of(text)
            for turn in range(12):
                changed = changed_tokens(maker.dice, tokens)
                answer = packed(schema, "A", " ".join(changed))
                if fit.fits(maker.kinds["A"], changed):
                    taken += 1
                    self.assertGreater(answer[0], 0, (seed, schema, changed))
                    back = unpacked(maker.kinds, "A", answer[1:])
                    self.assertEqual(tokens_of(back), changed, (seed, schema))
                    self.same(told(schema, "A", " ".join(changed)), answer_of(back), schema, back)
                else:
                    refused += 1
                    self.assertEqual(answer, [-4], (seed, schema, changed))
                    self.assertEqual(told(schema, "A", " ".join(changed), MOST + 1), [-4], (seed, schema, changed))
        self.assertGreater(taken, 500)
        self.assertGreater(refused, 2000)


if __name__ == "__main__":
    unittest.main()
