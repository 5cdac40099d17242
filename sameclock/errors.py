"""The errors that the program raises."""


class ClockError(ValueError):
    """The base class of all errors of the program."""


class TextError(ClockError):
    """A text is wrong at a place; rows and columns count from 1."""

    def __init__(self, row, column):
        super().__init__(f"row {row}, column {column}")
        self.row = row
        self.column = column


class BadCharacter(TextError):
    """A character can begin no token."""


class BadNumber(TextError):
    """What begins with a digit is not a number."""


class Unexpected(TextError):
    """The grammar does not allow a token at its place."""


class ProgramError(ClockError):
    """A program is wrong; the word names what is wrong in it."""

    def __init__(self, word):
        super().__init__(f"wrong: {word}")
        self.word = word


class DoubleName(ProgramError):
    """A name is given where it counts already."""


class UnknownName(ProgramError):
    """A name does not count where it is used."""


class WrongCount(ProgramError):
    """A length, a number of values or params, or a loop's most is wrong."""


class FixedName(ProgramError):
    """The name of a loop is assigned."""


class Leak(ProgramError):
    """A secret would come to what is public."""


class CodeError(ClockError):
    """The base class of what is wrong with machine code and its forms."""


class BadAllocation(CodeError):
    """An allocation does not fit."""


class BadBytes(CodeError):
    """A row of bytes is not that of any code."""


class BadListing(CodeError):
    """A text is not the listing of any code, from a row on."""

    def __init__(self, row):
        super().__init__(f"row {row}")
        self.row = row


class Refused(ClockError):
    """The judge refuses code, at a row, for the reason that the word tells."""

    def __init__(self, row, word):
        super().__init__(f"row {row}: {word}")
        self.row = row
        self.word = word
