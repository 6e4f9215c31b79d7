"""A walk along the tokens of a text."""

from thinbits.errors import WrongText
from thinbits.tokens import NUMBER, SIGN, WORD


class Reader:
    """Stands before one of the tokens, or behind the last."""

    def __init__(self, tokens):
        self.tokens = tokens
        self.place = 0

    def ended(self):
        return self.place == len(self.tokens)

    def skips(self, token):
        """Goes past the next token if it is this one; tells whether it was."""
        if self.ended() or self.tokens[self.place] != token:
            return False
        self.place += 1
        return True

    def skips_sign(self, sign):
        return self.skips((SIGN, sign))

    def skips_word(self, word):
        return self.skips((WORD, word))

    def needs_sign(self, sign):
        if not self.skips_sign(sign):
            raise WrongText(f"there is no {sign} where it must be")

    def needs_word(self, word):
        if not self.skips_word(word):
            raise WrongText(f"there is no {word} where it must be")

    def takes(self, sort):
        """Goes past the next token, which must be of this sort, and gives what it holds."""
        if self.ended() or self.tokens[self.place][0] != sort:
            raise WrongText(f"there is no {sort} where it must be")
        held = self.tokens[self.place][1]
        self.place += 1
        return held

    def takes_number(self, least, most):
        number = self.takes(NUMBER)
        if number < least or number > most:
            raise WrongText("a number lies too far out")
        return number
