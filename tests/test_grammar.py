"""Schemas made at random, right and spoilt, against a second reader that is written as the document's grammar."""

import random
import re
import unittest

from thinbits.packing import schema

OWN = ("BOOLEAN NULL INTEGER MIN MAX ENUMERATED BIT STRING OCTET SIZE SEQUENCE OPTIONAL OF CHOICE "
       "TRUE FALSE").split()
TOKEN = re.compile(
    rb"(?P<blank>[\t\n\r ]+|--[^\n]*)"
    rb"|(?P<word>[A-Za-z][A-Za-z0-9-]*)"
    rb"|(?P<number>-?[0-9]+)"
    rb"|(?P<string>'[01]*'B|'(?:[0-9A-F][0-9A-F])*'H)"
    rb"|(?P<sign>::=|\.\.\.|\.\.|[{}(),:])")


class No(Exception):
    pass


def need(held):
    if not held:
        raise No()


class Grammar:
    """Calls itself for kinds within kinds: for schemas that are not deep."""

    def __init__(self, text):
        self.tokens = []
        self.named = set()
        place = 0
        while place < len(text):
            found = TOKEN.match(text, place)
            need(found)
            place = found.end()
            self.add(found.lastgroup, found.group().decode("latin-1"))
        self.tokens.append("")

    def add(self, sort, piece):
        if sort == "word":
            need(len(piece) <= 64 and piece[-1] != "-")
        if sort == "number":
            need(re.fullmatch("0|-?[1-9][0-9]{0,19}", piece))
        if sort != "blank":
            self.tokens.append(piece)

    def pull(self):
        need(len(self.tokens) > 1)
        return self.tokens.pop(0)

    def want(self, *pieces):
        for piece in pieces:
            need(self.pull() == piece)

    def maybe(self, piece):
        if self.tokens[0] == piece:
            return self.pull()
        return None

    def kind_name(self):
        piece = self.pull()
        need(re.match("[A-Z]", piece) and piece not in OWN)
        return piece

    def schema(self):
        names = []
        while self.tokens[0]:
            names.append(self.kind_name())
            self.want("::=")
            self.kind()
        need(1 <= len(names) <= 256 and len(set(names)) == len(names) and self.named <= set(names))
        return len(names)

    def bounds(self, least, most, lowest):
        self.want("(")
        low = high = self.pull()
        if self.maybe(".."):
            high = self.pull()
            need(low == lowest or re.match("-?[0-9]", low))
            need(high == "MAX" or re.match("-?[0-9]", high))
        else:
            need(re.match("-?[0-9]", low))
        numbers = [int(bound) for bound in (low, high) if bound not in ("MIN", "MAX")]
        need(numbers == sorted(numbers) and all(least <= number <= most for number in numbers))
        self.want(")")

    def size(self):
        if self.maybe("("):
            self.want("SIZE")
            self.bounds(0, 65535, None)
            self.want(")")

    def listed(self, item, may_be_empty):
        """What stands in brackets, `...` as an item of its own; then its order is looked at."""
        self.want("{")
        found = []
        if self.maybe("}"):
            need(may_be_empty)
            return
        while True:
            if self.maybe("..."):
                found.append("...")
            else:
                name = self.pull()
                need(re.match("[a-z]", name))
                found.append(name)
                item()
            if self.maybe("}"):
                break
            self.want(",")
        need(len(set(found)) == len(found))
        need(found[0] != "..." or (may_be_empty and len(found) == 1))

    def part(self):
        self.kind()
        self.maybe("OPTIONAL")

    def kind(self):
        first = self.pull()
        if first == "INTEGER":
            if self.tokens[0] == "(":
                self.bounds(-2 ** 63, 2 ** 63 - 1, "MIN")
        elif first in ("BIT", "OCTET"):
            self.want("STRING")
            self.size()
        elif first == "ENUMERATED":
            self.listed(lambda: None, False)
        elif first == "CHOICE":
            self.listed(self.kind, False)
        elif first == "SEQUENCE" and self.tokens[0] == "{":
            self.listed(self.part, True)
        elif first == "SEQUENCE":
            self.size()
            self.want("OF")
            self.kind()
        elif first not in ("BOOLEAN", "NULL"):
            need(re.match("[A-Z]", first) and first not in OWN)
            self.named.add(first)


def expected(text):
    try:
        return [Grammar(text).schema()]
    except No:
        return [-2]


class Maker:
    """Makes schemas, as lists of tokens."""

    def __init__(self, seed):
        self.dice = random.Random(seed)

    def bounds(self, least, most, lowest):
        pool = [least, least + 1, 0, 1, 7, most - 1, most]
        low, high = sorted(self.dice.choices([n for n in pool if n >= least], k=2))
        form = self.dice.randrange(4)
        if form == 0:
            return ["(", str(low), ")"]
        low = lowest if lowest and form == 1 else str(low)
        return ["(", low, "..", "MAX" if form == 2 else str(high), ")"]

    def size(self):
        if self.dice.randrange(2):
            return []
        return ["(", "SIZE"] + self.bounds(0, 65535, None) + [")"]

    def listed(self, item, fewest):
        names = self.dice.sample(["a", "b", "c-d", "e--f", "x9", "y" * 64], self.dice.randint(fewest, 4))
        items = [[name] + item() for name in names]
        if self.dice.randrange(2):
            items.insert(self.dice.randint(1, len(items)) if items else 0, ["..."])
        made = ["{"]
        for place, tokens in enumerate(items):
            made += ([","] if place else []) + tokens
        return made + ["}"]

    def kind(self, deep):
        form = self.dice.randrange(10 if deep else 7)
        if form == 0:
            return ["INTEGER"] + (self.bounds(-2 ** 63, 2 ** 63 - 1, "MIN") if self.dice.randrange(3) else [])
        if form == 1:
            return ["ENUMERATED"] + self.listed(lambda: [], 1)
        if form == 2:
            return [self.dice.choice(["BIT", "OCTET"]), "STRING"] + self.size()
        if form in (3, 4):
            return [self.dice.choice(["A", "B", "Cc", "D-9"])]
        if form in (5, 6):
            return [self.dice.choice(["BOOLEAN", "NULL"])]
        if form == 7:
            return ["SEQUENCE"] + self.size() + ["OF"] + self.kind(deep - 1)
        if form == 8:
            return ["CHOICE"] + self.listed(lambda: self.kind(deep - 1), 1)
        return ["SEQUENCE"] + self.listed(
            lambda: self.kind(deep - 1) + self.dice.choice([[], ["OPTIONAL"]]), 0)

    def tokens(self):
        made = []
        for name in ["A", "B", "Cc", "D-9"]:
            made += [name, "::="] + self.kind(3)
        return made

    def spoil_tokens(self, tokens):
        others = tokens + OWN + ["a", "Zz", "0", "-1", "65536", "9223372036854775808", "00", "-0", "...", "..", ":",
                                 "'01'B", "''H", "'", "z" * 65, "q-", "--", "-", "="]
        place = self.dice.randrange(len(tokens))
        form = self.dice.randrange(4)
        if form == 0:
            return tokens[:place] + tokens[place + 1:]
        if form == 1:
            return tokens[:place] + [self.dice.choice(others)] + tokens[place + 1:]
        if form == 2:
            return tokens[:place] + [self.dice.choice(others)] + tokens[place:]
        return tokens[:place] + tokens[place:place + 2][::-1] + tokens[place + 2:]

    def text(self, tokens):
        made = b""
        for token in tokens:
            between = self.dice.choice([b" ", b" ", b"\n", b"\t\r ", b" --x\xff'\n", b""])
            if not between and made[-1:].isalnum() and token[0].isalnum():
                between = b" "
            made += between + token.encode()
        return made

    def spoil_bytes(self, text):
        place = self.dice.randrange(len(text))
        other = self.dice.choice([b"", b"-", b"--", b" ", b"\n", b".", b":", b"'", b"0", b"A", b"a", b"\0", b"\x80", b","])
        return text[:place] + other + text[place + self.dice.randrange(2):]


class Random(unittest.TestCase):
    def check(self, text):
        answer = schema(list(text))
        self.assertEqual(answer, expected(text), text)
        return answer

    def test_right_ones(self):
        maker = Maker(1)
        for turn in range(1500):
            self.assertEqual(self.check(maker.text(maker.tokens())), [4])

    def test_spoilt_tokens(self):
        maker = Maker(2)
        answers = [self.check(maker.text(maker.spoil_tokens(maker.tokens()))) for turn in range(3000)]
        self.assertGreater(answers.count([-2]), 1000)
        self.assertGreater(answers.count([4]), 100)

    def test_spoilt_bytes(self):
        maker = Maker(3)
        answers = [self.check(maker.spoil_bytes(maker.text(maker.tokens()))) for turn in range(3000)]
        self.assertGreater(answers.count([-2]), 500)
        self.assertGreater(answers.count([4]), 500)


if __name__ == "__main__":
    unittest.main()
