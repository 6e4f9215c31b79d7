"""Tells a value, as it was read, as the one text that it has."""

from thinbits.schemas import NAMED, SEQUENCE_OF


def in_brackets(items):
    if len(items) == 0:
        return "{ }"
    return "{ " + ", ".join(items) + " }"


def told_sequence(kind, parts):
    return in_brackets([name + " " + told_part(kind, name, value) for name, value in parts])


def told_sequence_of(kind, values):
    return in_brackets([told_value(kind.parts[0], value) for value in values])


def told_choice(kind, chosen):
    return chosen[0] + ": " + told_part(kind, chosen[0], chosen[1])


def told_part(kind, name, value):
    """The value of the part, or of the choice, that has this name."""
    return told_value(kind.parts[kind.places[name]], value)


def told_value(kind, value):
    form = kind.form
    if form == NAMED:
        return told_value(kind.parts[0], value)
    if form == "BOOLEAN":
        return "TRUE" if value else "FALSE"
    if form == "NULL":
        return "NULL"
    if form == "INTEGER":
        return str(value)
    if form == "BIT":
        return "'" + value + "'B"
    if form == "OCTET":
        return "'" + value + "'H"
    if form == "SEQUENCE":
        return told_sequence(kind, value)
    if form == SEQUENCE_OF:
        return told_sequence_of(kind, value)
    if form == "CHOICE":
        return told_choice(kind, value)
    # Of ENUMERATED the name is the text.
    return value


def told_bytes(kind, value):
    return [ord(letter) for letter in told_value(kind, value)]
