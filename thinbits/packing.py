"""The calls. Each takes and gives lists of whole numbers; a number below 0 is a refusal."""

from thinbits.errors import WrongText
from thinbits.schemas import read_schema

MOST_BYTES = 65536

TOO_MUCH = -1
NO_SCHEMA = -2


def schema(text):
    """How many kinds the schema's text defines."""
    if len(text) > MOST_BYTES:
        return [TOO_MUCH]
    try:
        kinds = read_schema(text)
    except WrongText:
        return [NO_SCHEMA]
    return [len(kinds)]
