"""The parser against the grammar of point 1.5, word for word: it takes the same texts, and refuses at the same token."""

import random
import unittest

from sameclock.errors import Unexpected
from sameclock.parser import parse, parse_expr
from sameclock.printing import print_expr, print_program
from sameclock.tokens import KEYWORDS, tokens
from trees import random_expr, random_program

GRAMMAR = """
program   = arrays procedures "main" "(" ")" body | arrays procedures "main" "(" params ")" body
arrays    = | array arrays
procedures = | procedure procedures
array     = label "array" name "[" number "]" ";"
procedure = "fn" name "(" ")" body | "fn" name "(" params ")" body
label     = "public" | "secret"
params    = label name more
more      = | "," label name more
body      = "{" statements "return" expr ";" "}"
statements = | statement statements
statement = label name "=" expr ";" | name "=" expr ";" | name "[" expr "]" "=" expr ";"
statement = "if" expr block | "if" expr block "else" block
statement = "for" name "to" expr "max" number block | "out" expr ";"
block     = "{" statements "}"
expr      = either | either "?" expr ":" expr
either    = apart | either BAR apart
apart     = both | apart "^" both
both      = compare | both "&" compare
compare   = shift | shift "==" shift | shift "<" shift | shift "<=" shift
shift     = total | shift "<<" total | shift ">>" total
total     = product | total "+" product | total "-" product
product   = unary | product "*" unary | product "div" unary | product "mod" unary
unary     = "!" unary | primary
primary   = number | name | name "[" expr "]" | name "(" ")" | name "(" values ")" | "(" expr ")"
values    = expr | values "," expr
"""


def read_grammar():
    rules = {}
    for row in GRAMMAR.strip().split("\n"):
        head, _, ways = row.partition("=")
        for way in ways.strip().split("|"):
            symbols = tuple('"|"' if symbol == "BAR" else symbol for symbol in way.split())
            rules.setdefault(head.strip(), []).append(symbols)
    return rules


RULES = read_grammar()
NULLABLE = {"arrays", "procedures", "more", "statements"}


def matches(symbol, token):
    if symbol in ("name", "number"):
        return token[0] == symbol
    return symbol == '"' + token[1] + '"' and token[0] in ("keyword", "sign")


def first_wrong(start, row):
    """The index of the first token that no text of the grammar has behind those before it, or None (Earley's way)."""
    sets = [set()]
    waiting = [(start, way, 0, 0) for way in RULES[start]]
    for at, token in enumerate(row):
        now = sets[at]
        while waiting:
            item = waiting.pop()
            if item in now:
                continue
            now.add(item)
            head, way, dot, begin = item
            if dot == len(way):
                for other in list(sets[begin]):
                    if other[2] < len(other[1]) and other[1][other[2]] == head:
                        waiting.append((other[0], other[1], other[2] + 1, other[3]))
            elif way[dot] in RULES:
                waiting.extend((way[dot], inner, 0, at) for inner in RULES[way[dot]])
                if way[dot] in NULLABLE:
                    waiting.append((head, way, dot + 1, begin))
        if token[0] == "end":
            whole = any(item[0] == start and item[2] == len(item[1]) and item[3] == 0 for item in now)
            return None if whole else at
        waiting = [(head, way, dot + 1, begin) for head, way, dot, begin in now
                   if dot < len(way) and way[dot] not in RULES and matches(way[dot], token)]
        if not waiting:
            return at
        sets.append(set())
    return None


OTHER_WORDS = list(KEYWORDS) + "{ } ( ) [ ] , ; = + - * & | ^ ! ? : < <= << >> == a b 0 17".split()


class TestGrammar(unittest.TestCase):
    def compare(self, function, start, text):
        row = tokens(text)
        wrong = first_wrong(start, row)
        if wrong is None:
            function(text)
            return 1
        with self.assertRaises(Unexpected) as caught:
            function(text)
        self.assertEqual((caught.exception.row, caught.exception.column), row[wrong][2:], text)
        return 0

    def change(self, chance, text):
        words = text.split()
        for _ in range(chance.randrange(1, 3)):
            at = chance.randrange(len(words) + 1)
            kind = chance.randrange(4)
            if kind == 0:
                del words[at:at + 1]
            elif kind == 1:
                words[at:at + 1] = [chance.choice(OTHER_WORDS)]
            elif kind == 2:
                words.insert(at, chance.choice(OTHER_WORDS))
            else:
                other = chance.randrange(len(words) + 1)
                words[at:at + 1], words[other:other + 1] = words[other:other + 1], words[at:at + 1]
        return " ".join(words)

    def test_exprs(self):
        chance = random.Random(11)
        good = 0
        for _ in range(900):
            spaced = " ".join(token[1] for token in tokens(print_expr(random_expr(chance, 3))))
            self.assertEqual(self.compare(parse_expr, "expr", spaced), 1)
            good += self.compare(parse_expr, "expr", self.change(chance, spaced))
        self.assertGreater(good, 100)

    def test_programs(self):
        chance = random.Random(12)
        good = 0
        for number in range(150):
            text = print_program(random_program(number))
            if len(text) > 900:
                continue
            spaced = " ".join(token[1] for token in tokens(text))
            self.assertEqual(self.compare(parse, "program", spaced), 1)
            for _ in range(4):
                good += self.compare(parse, "program", self.change(chance, spaced))
        self.assertGreater(good, 5)

    def test_rows_of_words(self):
        chance = random.Random(13)
        for _ in range(3000):
            words = [chance.choice(OTHER_WORDS) for _ in range(chance.randrange(6))]
            self.compare(parse_expr, "expr", " ".join(words))
            self.compare(parse, "program", "main ( ) { " + " ".join(words) + " return 0 ; }")


if __name__ == "__main__":
    unittest.main()
