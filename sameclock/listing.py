"""Machine code as texts (points 6.9 and 6.10)."""

from sameclock.code_form import CODE_FORMS, is_code, is_row
from sameclock.errors import BadListing
from sameclock.forms import is_label
from sameclock.limits import GREATEST_BASE, GREATEST_SIZE, MOST_REGIONS, MOST_ROWS

DIGITS = "0123456789"
# More digits than any number of a listing has.
MOST_DIGITS = 10


def write_listing(code):
    """Returns the text of some code."""
    rows = [f"region {size} {label}\n" for _, size, label in code[0]]
    for index, row in enumerate(code[1]):
        rows.append(f"{index}: " + " ".join([str(part) for part in row]) + "\n")
    return "".join(rows)


def read_listing(text):
    """Returns the code of a text; raises BadListing."""
    rows = text.split("\n")
    listed = Listed()
    for number, row in enumerate(rows[:-1]):
        if not listed.take(row.split(" ")):
            raise BadListing(number + 1)
    code = (tuple(listed.regions), tuple(listed.rows))
    if rows[-1] != "" or not is_code(code):
        raise BadListing(len(rows))
    return code


class Listed:
    """The regions and rows of a listing, as far as it is read."""

    def __init__(self):
        self.regions = []
        self.base = 0
        self.rows = []

    def take(self, words):
        """Takes the words of one more row; False if it cannot stand here in any listing."""
        if words[0] == "region":
            return self.take_region(words)
        index = len(self.rows)
        if index == MOST_ROWS or words[0] != f"{index}:" or len(words) < 2 or words[1] not in CODE_FORMS:
            return False
        kinds = CODE_FORMS[words[1]]
        row = (words[1],) + tuple([_part(word, kind) for word, kind in zip(words[2:], kinds)])
        if len(words) != len(kinds) + 2:
            return False
        self.rows.append(row)
        # Behind the last row that code may have no other one can end it.
        return is_row(row, MOST_ROWS) and (index < MOST_ROWS - 1 or row[0] in ("jump", "stop"))

    def take_region(self, words):
        """Takes the words of a region."""
        if len(words) != 3 or self.rows or len(self.regions) == MOST_REGIONS or self.base > GREATEST_BASE:
            return False
        size = _number(words[1])
        if not 1 <= size <= GREATEST_SIZE or not is_label(words[2]):
            return False
        self.regions.append((self.base, size, words[2]))
        self.base += size
        return True


def _part(word, kind):
    return word if kind == "sign" else _number(word)


def _number(word):
    """The number that a word is as a listing writes it, or -1."""
    if not 1 <= len(word) <= MOST_DIGITS or (word[0] == "0" and len(word) > 1):
        return -1
    for digit in word:
        if digit not in DIGITS:
            return -1
    return int(word)
