"""The calls. Each takes and gives lists of whole numbers; a number below 0 is a refusal."""

from thinbits.errors import TooLong, WrongText
from thinbits.schemas import read_schema
from thinbits.tokens import text_of
from thinbits.values import read_value_text
from thinbits.writing import packed_bytes

MOST_BYTES = 65536
MOST_ANSWERED = 1048576

TOO_MUCH = -1
NO_SCHEMA = -2
NO_KIND = -3
NO_VALUE = -4
TOO_LONG = -5


def schema(text):
    """How many kinds the schema's text defines."""
    if len(text) > MOST_BYTES:
        return [TOO_MUCH]
    try:
        kinds = read_schema(text)
    except WrongText:
        return [NO_SCHEMA]
    return [len(kinds)]


def read_kind_called(schema_text, type_name):
    kinds = read_schema(schema_text)
    name = text_of(type_name)
    if name not in kinds:
        raise WrongText("there is no such kind")
    return kinds[name]


def pack(most, schema_text, type_name, value_text):
    """How many bytes the value makes, then these."""
    if most > MOST_ANSWERED:
        return [TOO_MUCH]
    try:
        kind = read_kind_called(schema_text, type_name)
    except WrongText:
        return [NO_KIND]
    try:
        value = read_value_text(value_text, kind)
    except WrongText:
        return [NO_VALUE]
    try:
        packed = packed_bytes(kind, value, most)
    except TooLong:
        return [TOO_LONG]
    return [len(packed)] + packed
