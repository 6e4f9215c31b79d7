"""Reads a schema's text."""

from thinbits.errors import WrongText
from thinbits.reader import Reader
from thinbits.tokens import WORD, tokens_of

MOST_KINDS = 256
LEAST_INTEGER = -9223372036854775808
MOST_INTEGER = 9223372036854775807
MOST_SIZE = 65535

# The words with a meaning of their own, in schemas and in values: no kind is called so.
OWN_WORDS = (
    "BIT", "BOOLEAN", "CHOICE", "ENUMERATED", "FALSE", "INTEGER", "MAX", "MIN",
    "NULL", "OCTET", "OF", "OPTIONAL", "SEQUENCE", "SIZE", "STRING", "TRUE",
)

NAMED = "a name"
SEQUENCE_OF = "SEQUENCE OF"


class Kind:
    """What a value may be: one T of a schema.

    form: its first word, but SEQUENCE_OF, and NAMED of one that only names another, called target.
    low, high: bounds of the number or of the size, None where there is none.
    places: from each name within the brackets to its place, extensions behind the others.
    roots: how many of these are no extensions. extensible: whether there is a "...".
    parts: the kinds within, in their order; of NAMED the one that it names.
    needed: of a SEQUENCE, at each place and behind the last, how many parts before it are not OPTIONAL.
    waits: whether a kind within is still to be read.
    """

    def __init__(self, form):
        self.form = form
        self.target = ""
        self.low = None
        self.high = None
        self.places = {}
        self.roots = 0
        self.extensible = False
        self.parts = []
        self.needed = [0]
        self.waits = False


def checked_kind_name(word):
    if not word[0].isupper() or word in OWN_WORDS:
        raise WrongText("no kind may be called so")
    return word


def read_high(reader, low, least, most):
    """The upper bound behind a lower one: the same number again where no range is written."""
    if low is None:
        # MIN is no number: it is only the lower end of a range.
        reader.needs_sign("..")
    elif not reader.skips_sign(".."):
        return low
    if reader.skips_word("MAX"):
        return None
    high = reader.takes_number(least, most)
    if low is not None and high < low:
        raise WrongText("the lower bound is above the upper one")
    return high


def read_integer(reader):
    kind = Kind("INTEGER")
    if reader.skips_sign("("):
        if not reader.skips_word("MIN"):
            kind.low = reader.takes_number(LEAST_INTEGER, MOST_INTEGER)
        kind.high = read_high(reader, kind.low, LEAST_INTEGER, MOST_INTEGER)
        reader.needs_sign(")")
    return kind


def read_size(reader, kind):
    """Reads the size that may stand here."""
    if reader.skips_sign("("):
        reader.needs_word("SIZE")
        reader.needs_sign("(")
        kind.low = reader.takes_number(0, MOST_SIZE)
        kind.high = read_high(reader, kind.low, 0, MOST_SIZE)
        reader.needs_sign(")")
        reader.needs_sign(")")


def read_string(reader, form):
    kind = Kind(form)
    reader.needs_word("STRING")
    read_size(reader, kind)
    return kind


def add_name(reader, kind):
    name = reader.takes(WORD)
    if not name[0].islower() or name in kind.places:
        raise WrongText("this is no name, or one that is there already")
    kind.places[name] = len(kind.places)
    if not kind.extensible:
        kind.roots += 1


def next_name(reader, kind):
    """Goes on behind something in brackets: to the next name, or past the bracket that closes; tells which."""
    if reader.skips_sign("}"):
        return False
    reader.needs_sign(",")
    if not kind.extensible and reader.skips_sign("..."):
        kind.extensible = True
        if reader.skips_sign("}"):
            return False
        reader.needs_sign(",")
    add_name(reader, kind)
    return True


def read_enumerated(reader):
    kind = Kind("ENUMERATED")
    reader.needs_sign("{")
    add_name(reader, kind)
    goes_on = next_name(reader, kind)
    while goes_on:
        goes_on = next_name(reader, kind)
    return kind


def begin_choice(reader):
    kind = Kind("CHOICE")
    reader.needs_sign("{")
    add_name(reader, kind)
    kind.waits = True
    return kind


def begin_sequence_of(reader):
    kind = Kind(SEQUENCE_OF)
    read_size(reader, kind)
    reader.needs_word("OF")
    kind.waits = True
    return kind


def begin_sequence(reader):
    if not reader.skips_sign("{"):
        return begin_sequence_of(reader)
    kind = Kind("SEQUENCE")
    if reader.skips_sign("}"):
        return kind
    if reader.skips_sign("..."):
        # Without a part before there are no extensions either.
        kind.extensible = True
        reader.needs_sign("}")
        return kind
    add_name(reader, kind)
    kind.waits = True
    return kind


def named_kind(word, named):
    kind = Kind(NAMED)
    kind.target = checked_kind_name(word)
    named.append(kind)
    return kind


def begin_kind(reader, named):
    """Reads a kind up to the first one within it, or all of it if there is none."""
    word = reader.takes(WORD)
    if word == "BOOLEAN" or word == "NULL":
        return Kind(word)
    if word == "INTEGER":
        return read_integer(reader)
    if word == "ENUMERATED":
        return read_enumerated(reader)
    if word == "BIT" or word == "OCTET":
        return read_string(reader, word)
    if word == "SEQUENCE":
        return begin_sequence(reader)
    if word == "CHOICE":
        return begin_choice(reader)
    return named_kind(word, named)


def take_inner(reader, outer, inner):
    """Puts a kind that has been read into the one around it, and reads that up to the next one within it."""
    outer.parts.append(inner)
    if outer.form == SEQUENCE_OF:
        outer.waits = False
        return
    if outer.form == "SEQUENCE":
        needed = 0 if reader.skips_word("OPTIONAL") else 1
        outer.needed.append(outer.needed[-1] + needed)
    outer.waits = next_name(reader, outer)


def read_kind(reader, named):
    """Reads a kind, whatever stands within it; each one that only names another goes into named."""
    # Kinds may stand within each other deeper than calls may, so those around are kept in a list.
    around = []
    kind = begin_kind(reader, named)
    while kind.waits or len(around) > 0:
        if kind.waits:
            around.append(kind)
            kind = begin_kind(reader, named)
        else:
            outer = around.pop()
            take_inner(reader, outer, kind)
            kind = outer
    return kind


def join_named(kinds, named):
    """Gives each kind that only names another that one."""
    for kind in named:
        if kind.target not in kinds:
            raise WrongText("a kind is named that is not there")
        kind.parts.append(kinds[kind.target])


def read_schema(text):
    """The kinds that a schema's text defines, by their names; WrongText if it is no schema."""
    reader = Reader(tokens_of(text))
    named = []
    kinds = {}
    while not reader.ended():
        name = checked_kind_name(reader.takes(WORD))
        if name in kinds:
            raise WrongText("two kinds have one name")
        reader.needs_sign("::=")
        kinds[name] = read_kind(reader, named)
    if len(kinds) < 1 or len(kinds) > MOST_KINDS:
        raise WrongText("there are no kinds, or too many")
    join_named(kinds, named)
    return kinds
