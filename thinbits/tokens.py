"""Cuts a text, a list of bytes, into its tokens.

A token is a pair: its sort, and what it holds. A number holds a whole number, all others a text; that of a
string is what stands between the quotes.
"""

from thinbits.errors import WrongText

WORD = "word"
NUMBER = "number"
BITS = "bits"
OCTETS = "octets"
SIGN = "sign"

# What each byte is read as. All blanks but the one that ends a remark are alike, and so are all bytes that
# begin no token and stand in none: these are read as ?.
LETTERS = (
    "????????? \n?? ??"
    "????????????????"
    " ??????'()??,-.?"
    "0123456789:??=??"
    "?ABCDEFGHIJKLMNO"
    "PQRSTUVWXYZ?????"
    "?abcdefghijklmno"
    "pqrstuvwxyz{?}??"
)
BLANKS = " \n"
BIT_DIGITS = "01"
DIGITS = "0123456789"
OCTET_DIGITS = "0123456789ABCDEF"
WORD_LETTERS = "-0123456789ABCDEFGHIJKLMNOPQRSTUVWXYZabcdefghijklmnopqrstuvwxyz"

# A sign that begins like a longer one stands behind it, so that the longest counts.
SIGNS = ("::=", "...", "..", "{", "}", "(", ")", ",", ":")

LONGEST_WORD = 64
MOST_DIGITS = 20


def letter_of(code):
    return LETTERS[code] if code < len(LETTERS) else "?"


def text_of(codes):
    return "".join([letter_of(code) for code in codes])


def remark_end(text, start):
    end = text.find("\n", start)
    return len(text) if end < 0 else end + 1


def skip_blanks(text, start):
    """Where the next token begins, or the text's end: behind all blanks and remarks."""
    place = start
    while place < len(text):
        if text[place] in BLANKS:
            place += 1
        elif text.startswith("--", place):
            place = remark_end(text, place)
        else:
            return place
    return place


def run_end(text, start, letters):
    """Where the run of these letters ends that begins at start."""
    end = start
    while end < len(text) and text[end] in letters:
        end += 1
    return end


def word_token(piece):
    if len(piece) > LONGEST_WORD or piece.endswith("-"):
        raise WrongText("a word is too long or ends with -")
    return (WORD, piece)


def number_token(piece):
    digits = piece[1:] if piece.startswith("-") else piece
    # The digits are counted first: of a text full of them no number is made.
    if len(digits) < 1 or len(digits) > MOST_DIGITS:
        raise WrongText("a number has no digits or too many")
    if digits.startswith("0") and piece != "0":
        raise WrongText("a number has a 0 in front, or is -0")
    return (NUMBER, int(piece))


def only_of(digits, allowed):
    return all([digit in allowed for digit in digits])


def string_end(text, start):
    closing = text.find("'", start + 1)
    if closing < 0:
        raise WrongText("a quote is not closed")
    return closing + len("'B")


def string_token(piece):
    digits = piece[1:-2]
    if piece.endswith("'B") and only_of(digits, BIT_DIGITS):
        return (BITS, digits)
    if piece.endswith("'H") and len(digits) % 2 == 0 and only_of(digits, OCTET_DIGITS):
        return (OCTETS, digits)
    raise WrongText("this is no string")


def sign_end(text, start):
    for sign in SIGNS:
        if text.startswith(sign, start):
            return start + len(sign)
    raise WrongText("no token begins here")


def begins_number(letter):
    return letter == "-" or letter in DIGITS


def token_end(text, start):
    first = text[start]
    if first.isalpha():
        return run_end(text, start, WORD_LETTERS)
    if begins_number(first):
        return run_end(text, start + 1, DIGITS)
    if first == "'":
        return string_end(text, start)
    return sign_end(text, start)


def token_of(piece):
    first = piece[0]
    if first.isalpha():
        return word_token(piece)
    if begins_number(first):
        return number_token(piece)
    if first == "'":
        return string_token(piece)
    return (SIGN, piece)


def tokens_of(codes):
    """The tokens of a text, in their order; WrongText if something else stands in it."""
    text = text_of(codes)
    tokens = []
    place = skip_blanks(text, 0)
    while place < len(text):
        end = token_end(text, place)
        tokens.append(token_of(text[place:end]))
        place = skip_blanks(text, end)
    return tokens
