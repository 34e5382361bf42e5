"""Expressions: what the tokens of a question make up, before it is looked at what they stand for."""

from orrery.errors import BadQuestion
from orrery.questions.tokens import is_word
from orrery.questions.tokens import tokens

MOST_LEVEL = 20
PAIR_SIGNS = ("+", "-", "*", "<", "<=", ">", ">=", "&", "|")


class Parser:
    """The tokens of a text, one of which is looked at.

    Whatever tokens it has gone behind can go on to an expression. So the token at which it cannot go
    on is the one to tell.
    """

    def __init__(self, pairs):
        self._pairs = list(pairs)
        self._number = 0

    def token(self):
        """The token looked at."""
        return self._pairs[self._number][0]

    def where(self):
        """The offset of the token looked at."""
        return self._pairs[self._number][1]

    def go_on(self):
        """Looks at the next token."""
        self._number += 1

    def take(self, token):
        """Goes behind this token; another one is refused."""
        if self.token() != token:
            raise BadQuestion(self.where())
        self.go_on()

    def expression(self, level):
        """Takes an expression of this level."""
        token = self.token()
        if level > MOST_LEVEL:
            raise BadQuestion(self.where())
        if is_word(token):
            return self._word(level)
        if token == "-":
            return self._minus()
        if token == "!":
            self.go_on()
            return ("not", self.expression(level + 1))
        self.take("(")
        return self._bracketed(level + 1)

    def _word(self, level):
        word = self.token()
        self.go_on()
        if self.token() != "(":
            return ("word", word)
        self.go_on()
        return ("call", word, self._operands(level + 1))

    def _operands(self, level):
        """Takes expressions with commas between them, perhaps none, and the bracket behind them."""
        if self.token() == ")":
            self.go_on()
            return ()
        operands = [self.expression(level)]
        while self.token() == ",":
            self.go_on()
            operands.append(self.expression(level))
        self.take(")")
        return tuple(operands)

    def _minus(self):
        self.go_on()
        digits = self.token()
        if not digits.isdigit():
            raise BadQuestion(self.where())
        self.go_on()
        return ("minus", digits)

    def _bracketed(self, level):
        """Takes one expression, or two with a sign between them, and the bracket behind them."""
        left = self.expression(level)
        sign = self.token()
        if sign not in PAIR_SIGNS:
            self.take(")")
            return left
        self.go_on()
        right = self.expression(level)
        self.take(")")
        return ("pair", sign, left, right)


def parse_expression(text):
    """The expression that a text is."""
    parser = Parser(tokens(text))
    found = parser.expression(1)
    # Behind it the end of the text has to come.
    if parser.token() != "":
        raise BadQuestion(parser.where())
    return found


def expression_text(expression):
    """The text of an expression."""
    match expression:
        case ("word", word):
            return word
        case ("minus", digits):
            return "-" + digits
        case ("not", inner):
            return "!" + expression_text(inner)
        case ("call", word, operands):
            return word + "(" + ", ".join([expression_text(operand) for operand in operands]) + ")"
        case ("pair", sign, left, right):
            return f"({expression_text(left)} {sign} {expression_text(right)})"
