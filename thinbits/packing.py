"""The calls. Each takes and gives lists of whole numbers; a number below 0 is a refusal."""

from thinbits.errors import NoKind, NoValue, TooLong, WrongText
from thinbits.schemas import read_schema
from thinbits.telling import told_bytes
from thinbits.tokens import text_of
from thinbits.values import read_value_text
from thinbits.writing import packed_bytes

MOST_BYTES = 65536
MOST_ANSWERED = 1048576

TOO_MUCH = -1
NO_SCHEMA = -2
NO_KIND = -3
NO_VALUE = -4
TOO_LONG = -5


def schema(text):
    """How many kinds the schema's text defines."""
    if len(text) > MOST_BYTES:
        return [TOO_MUCH]
    try:
        kinds = read_schema(text)
    except WrongText:
        return [NO_SCHEMA]
    return [len(kinds)]


def kind_called(schema_text, type_name):
    try:
        kinds = read_schema(schema_text)
    except WrongText:
        raise NoKind("the text is no schema") from None
    name = text_of(type_name)
    if name not in kinds:
        raise NoKind("there is no such kind")
    return kinds[name]


def value_of(kind, value_text):
    try:
        return read_value_text(value_text, kind)
    except WrongText:
        raise NoValue("the text is no value of this kind") from None


def pack(most, schema_text, type_name, value_text):
    """How many bytes the value makes, then these."""
    if most > MOST_ANSWERED:
        return [TOO_MUCH]
    try:
        kind = kind_called(schema_text, type_name)
        value = value_of(kind, value_text)
        packed = packed_bytes(kind, value, most)
    except NoKind:
        return [NO_KIND]
    except NoValue:
        return [NO_VALUE]
    except TooLong:
        return [TOO_LONG]
    return [len(packed)] + packed


def tell(most, schema_text, type_name, value_text):
    """How many bytes the value's text has as it is told, then these."""
    try:
        kind = kind_called(schema_text, type_name)
        value = value_of(kind, value_text)
    except NoKind:
        return [NO_KIND]
    except NoValue:
        return [NO_VALUE]
    # Unlike in pack, what is wrong with the texts goes ahead of this.
    if most > MOST_ANSWERED:
        return [TOO_MUCH]
    told = told_bytes(kind, value)
    if len(told) > most:
        return [TOO_LONG]
    return [len(told)] + told
