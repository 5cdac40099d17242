"""Texts as trees (part 1, points 1.5 to 1.7)."""

from sameclock.errors import Unexpected
from sameclock.levels import COMPARE_LEVEL, GREATEST_LEVEL, LEVELS, LOWEST_LEVEL
from sameclock.tokens import tokens

LABELS = ("public", "secret")


class Reader:
    """Goes over the tokens of a text, from the first one on, and makes trees of them."""

    def __init__(self, text):
        self.rows = tokens(text)
        self.at = 0

    def next_kind(self):
        """The kind of the token that comes next."""
        return self.rows[self.at][0]

    def next_word(self):
        """The text of the token that comes next; no name is a keyword, so it tells signs and keywords."""
        return self.rows[self.at][1]

    def refuse(self):
        """Raises Unexpected with the place of the token that comes next."""
        token = self.rows[self.at]
        raise Unexpected(token[2], token[3])

    def take(self):
        """Goes behind the next token; gives its text."""
        word = self.next_word()
        self.at += 1
        return word

    def take_word(self, word):
        """Goes behind a keyword or sign that has to come next."""
        if self.next_word() != word:
            self.refuse()
        self.at += 1

    def take_kind(self, kind):
        """Goes behind a token that has to be of this kind; gives its text."""
        if self.next_kind() != kind:
            self.refuse()
        return self.take()

    def take_label(self):
        """Goes behind a label that has to come next; gives it."""
        if self.next_word() not in LABELS:
            self.refuse()
        return self.take()

    def take_end(self):
        """Refuses what stands behind a whole text."""
        if self.next_kind() != "end":
            self.refuse()

    def whole_program(self):
        """The tree of a program."""
        arrays = []
        while self.next_word() in LABELS:
            arrays.append(self.array())
        procedures = []
        while self.next_word() == "fn":
            self.at += 1
            procedures.append(self.procedure(self.take_kind("name")))
        self.take_word("main")
        main = self.procedure("main")
        self.take_end()
        return (tuple(arrays), tuple(procedures), main)

    def array(self):
        """The tree of an array."""
        label = self.take_label()
        self.take_word("array")
        name = self.take_kind("name")
        self.take_word("[")
        length = int(self.take_kind("number"))
        self.take_word("]")
        self.take_word(";")
        return (label, name, length)

    def procedure(self, name):
        """The tree of a procedure, or of main, from the sign behind its name on."""
        params = self.params()
        self.take_word("{")
        statements = self.statements("return")
        self.take_word("return")
        result = self.expr()
        self.take_word(";")
        self.take_word("}")
        return (name, params, statements, result)

    def params(self):
        """The pairs of the params, with the parentheses around them."""
        found = []
        self.take_word("(")
        if self.next_word() != ")":
            found.append(self.param())
            while self.next_word() == ",":
                self.at += 1
                found.append(self.param())
        self.take_word(")")
        return tuple(found)

    def param(self):
        """The pair of a label and a name."""
        label = self.take_label()
        return (label, self.take_kind("name"))

    def statements(self, end):
        """The trees of the statements up to the word that ends them."""
        found = []
        while self.next_word() != end:
            found.append(self.statement())
        return tuple(found)

    def block(self):
        """The trees of the statements of a block."""
        self.take_word("{")
        found = self.statements("}")
        self.take_word("}")
        return found

    def statement(self):
        """The tree of a statement."""
        word = self.next_word()
        if self.next_kind() == "name":
            return self.changing()
        if word in LABELS:
            return self.declaring()
        if word == "if":
            return self.deciding()
        if word == "for":
            return self.looping()
        self.take_word("out")
        value = self.expr()
        self.take_word(";")
        return ("out", value)

    def changing(self):
        """The tree of an assignment or a store."""
        name = self.take()
        index = None
        if self.next_word() == "[":
            index = self.bracketed()
        self.take_word("=")
        value = self.expr()
        self.take_word(";")
        if index is None:
            return ("assign", name, value)
        return ("store", name, index, value)

    def declaring(self):
        """The tree of a declaration."""
        label = self.take()
        name = self.take_kind("name")
        self.take_word("=")
        value = self.expr()
        self.take_word(";")
        return ("declare", label, name, value)

    def deciding(self):
        """The tree of an if."""
        self.take_word("if")
        condition = self.expr()
        then = self.block()
        other = ()
        if self.next_word() == "else":
            self.at += 1
            other = self.block()
        return ("if", condition, then, other)

    def looping(self):
        """The tree of a for."""
        self.take_word("for")
        name = self.take_kind("name")
        self.take_word("to")
        bound = self.expr()
        self.take_word("max")
        most = int(self.take_kind("number"))
        return ("for", name, bound, most, self.block())

    def expr(self):
        """The tree of an expression."""
        condition = self.operators(LOWEST_LEVEL)
        if self.next_word() != "?":
            return condition
        self.at += 1
        first = self.expr()
        self.take_word(":")
        return ("choose", condition, first, self.expr())

    def operators(self, least):
        """The tree of operands with operators between them whose levels are least or higher."""
        left = self.unary()
        most = GREATEST_LEVEL
        while least <= LEVELS.get(self.next_word(), 0) <= most:
            sign = self.take()
            level = LEVELS[sign]
            left = ("op", sign, left, self.operators(level + 1))
            # A comparison has no comparison as its operand, the others group to the left.
            most = level - 1 if level == COMPARE_LEVEL else level
        return left

    def unary(self):
        """The tree of a primary with any number of nots ahead of it."""
        nots = 0
        while self.next_word() == "!":
            self.at += 1
            nots += 1
        value = self.primary()
        for _ in range(nots):
            value = ("not", value)
        return value

    def primary(self):
        """The tree of a number, a name, a read, a call or what is in parentheses."""
        if self.next_kind() == "number":
            return ("num", int(self.take()))
        if self.next_word() == "(":
            self.at += 1
            value = self.expr()
            self.take_word(")")
            return value
        name = self.take_kind("name")
        if self.next_word() == "[":
            return ("read", name, self.bracketed())
        if self.next_word() == "(":
            return ("call", name, self.handed())
        return ("name", name)

    def bracketed(self):
        """The tree of what is in brackets, with the brackets around it."""
        self.take_word("[")
        value = self.expr()
        self.take_word("]")
        return value

    def handed(self):
        """The trees of the values of a call, with the parentheses around them."""
        found = []
        self.take_word("(")
        if self.next_word() != ")":
            found.append(self.expr())
            while self.next_word() == ",":
                self.at += 1
                found.append(self.expr())
        self.take_word(")")
        return tuple(found)


def parse(text):
    """Returns the tree of a program."""
    return Reader(text).whole_program()


def parse_expr(text):
    """Returns the tree of a text that is one expression."""
    reader = Reader(text)
    value = reader.expr()
    reader.take_end()
    return value
