"""Texts as trees (points 1.5 to 1.7)."""

import unittest

from sameclock.errors import BadCharacter, BadNumber, Unexpected
from sameclock.parser import parse, parse_expr

A = ("name", "a")
B = ("name", "b")
C = ("name", "c")
D = ("name", "d")
LEFT = {
    1: ["|"], 2: ["^"], 3: ["&"], 5: ["<<", ">>"], 6: ["+", "-"], 7: ["*", "div", "mod"],
}
COMPARES = ["==", "<", "<="]


def body(text):
    """The statements of a main with this text."""
    return parse("main() { " + text + " return 0; }")[2][2]


def op(sign, a, b):
    return ("op", sign, a, b)


class TestTrees(unittest.TestCase):
    def test_example(self):
        self.assertEqual(parse("main(secret s) { return s + 1; }"),
                         ((), (), ("main", (("secret", "s"),), (), ("op", "+", ("name", "s"), ("num", 1)))))

    def test_arrays(self):
        tree = parse("public array a[1]; secret array key[64];secret array x [ 0 ] ; main() { return 0; }")
        self.assertEqual(tree[0], (("public", "a", 1), ("secret", "key", 64), ("secret", "x", 0)))
        self.assertEqual(tree[1:], ((), ("main", (), (), ("num", 0))))

    def test_procedures(self):
        tree = parse("fn f() { return 1; } fn g(public a, secret b, public c) { out a; return b; }"
                     " main() { return 0; }")
        self.assertEqual(tree[1], (
            ("f", (), (), ("num", 1)),
            ("g", (("public", "a"), ("secret", "b"), ("public", "c")), (("out", A),), B)))

    def test_params_of_main(self):
        self.assertEqual(parse("main(public a,secret b) { return a; }")[2],
                         ("main", (("public", "a"), ("secret", "b")), (), A))

    def test_statements(self):
        self.assertEqual(body("public a = b; secret c = 1;"),
                         (("declare", "public", "a", B), ("declare", "secret", "c", ("num", 1))))
        self.assertEqual(body("a = b;"), (("assign", "a", B),))
        self.assertEqual(body("a[b] = c;"), (("store", "a", B, C),))
        self.assertEqual(body("out a;"), (("out", A),))
        self.assertEqual(body("for a to b max 10 { out c; out a; }"),
                         (("for", "a", B, 10, (("out", C), ("out", A))),))
        self.assertEqual(body("for a to b max 0 {}"), (("for", "a", B, 0, ()),))

    def test_ifs(self):
        self.assertEqual(body("if a { out b; } else { out c; }"), (("if", A, (("out", B),), (("out", C),)),))
        self.assertEqual(body("if a { out b; }"), (("if", A, (("out", B),), ()),))
        self.assertEqual(body("if a { } else { }"), (("if", A, (), ()),))
        self.assertEqual(body("if a { if b { } else { out c; } }"),
                         (("if", A, (("if", B, (), (("out", C),)),), ()),))
        self.assertEqual(body("if a { if b { } } else { out c; }"),
                         (("if", A, (("if", B, (), ()),), (("out", C),)),))

    def test_primaries(self):
        self.assertEqual(parse_expr("4294967295"), ("num", 4294967295))
        self.assertEqual(parse_expr("0"), ("num", 0))
        self.assertEqual(parse_expr("a"), A)
        self.assertEqual(parse_expr("a[b]"), ("read", "a", B))
        self.assertEqual(parse_expr("a[b[c]]"), ("read", "a", ("read", "b", C)))
        self.assertEqual(parse_expr("a()"), ("call", "a", ()))
        self.assertEqual(parse_expr("a(b)"), ("call", "a", (B,)))
        self.assertEqual(parse_expr("a(b, c?a:b, d(1))"),
                         ("call", "a", (B, ("choose", C, A, B), ("call", "d", (("num", 1),)))))
        self.assertEqual(parse_expr("((a))"), A)

    def test_not(self):
        self.assertEqual(parse_expr("!a"), ("not", A))
        self.assertEqual(parse_expr("!!!a"), ("not", ("not", ("not", A))))
        self.assertEqual(parse_expr("!a * !b"), op("*", ("not", A), ("not", B)))
        self.assertEqual(parse_expr("!a[b]"), ("not", ("read", "a", B)))
        self.assertEqual(parse_expr("!(a * b)"), ("not", op("*", A, B)))
        self.assertEqual(parse_expr("a == !b"), op("==", A, ("not", B)))

    def test_choose(self):
        self.assertEqual(parse_expr("a ? b : c"), ("choose", A, B, C))
        self.assertEqual(parse_expr("a ? b : c ? d : a"), ("choose", A, B, ("choose", C, D, A)))
        self.assertEqual(parse_expr("a ? b ? c : d : a"), ("choose", A, ("choose", B, C, D), A))
        self.assertEqual(parse_expr("(a ? b : c) ? d : a"), ("choose", ("choose", A, B, C), D, A))
        self.assertEqual(parse_expr("a | b ? c | d : a | b"),
                         ("choose", op("|", A, B), op("|", C, D), op("|", A, B)))

    def test_left_grouping(self):
        for signs in LEFT.values():
            for one in signs:
                for two in signs:
                    self.assertEqual(parse_expr(f"a {one} b {two} c"), op(two, op(one, A, B), C))
                    self.assertEqual(parse_expr(f"a {one} (b {two} c)"), op(one, A, op(two, B, C)))

    def test_levels(self):
        levels = dict(LEFT)
        levels[4] = COMPARES
        for low, lows in levels.items():
            for high, highs in levels.items():
                if low < high:
                    for one in lows:
                        for two in highs:
                            self.assertEqual(parse_expr(f"a {one} b {two} c"), op(one, A, op(two, B, C)))
                            self.assertEqual(parse_expr(f"a {two} b {one} c"), op(one, op(two, A, B), C))
                            self.assertEqual(parse_expr(f"(a {one} b) {two} c"), op(two, op(one, A, B), C))

    def test_comparisons_do_not_group(self):
        for one in COMPARES:
            for two in COMPARES:
                self.assertEqual(parse_expr(f"(a {one} b) {two} c"), op(two, op(one, A, B), C))
                self.assertEqual(parse_expr(f"a {one} (b {two} c)"), op(one, A, op(two, B, C)))
                for text in (f"a {one} b {two} c", f"a + b {one} b * c {two} c", f"a {one} b {two} c & d",
                             f"d & a {one} b {two} c", f"d | a {one} b << 1 {two} c"):
                    with self.assertRaises(Unexpected) as caught:
                        parse_expr(text)
                    self.assertEqual(caught.exception.column, text.rindex(" " + two + " ") + 2, text)

    def test_mixed(self):
        self.assertEqual(parse_expr("a == b & c == d"), op("&", op("==", A, B), op("==", C, D)))
        self.assertEqual(parse_expr("a | b ^ c & d == a << b + c * d"),
                         op("|", A, op("^", B, op("&", C, op("==", D, op("<<", A, op("+", B, op("*", C, D))))))))
        self.assertEqual(parse_expr("a * b + c << d == a & b ^ c | d"),
                         op("|", op("^", op("&", op("==", op("<<", op("+", op("*", A, B), C), D), A), B), C), D))

    def test_kinds_of_values(self):
        tree = parse("secret array k[2]; fn f(public a) { return a; }"
                     " main() { for i to 3 max 4 { k[i] = f(i); } return 0; }")

        def look(thing):
            self.assertIn(type(thing), (tuple, str, int))
            if isinstance(thing, tuple):
                for part in thing:
                    look(part)

        look(tree)


class TestUnexpected(unittest.TestCase):
    def refused(self, text, row, column, function=parse, error=Unexpected):
        with self.assertRaises(error) as caught:
            function(text)
        self.assertIs(type(caught.exception), error)
        self.assertEqual((caught.exception.row, caught.exception.column), (row, column), text)

    def marked(self, text, function=parse):
        """The mark @ stands ahead of the token that is unexpected."""
        before, after = text.split("@")
        self.refused(before + after, before.count("\n") + 1, len(before) - before.rfind("\n"), function)

    def test_programs(self):
        for text in (
            "@", "@x", "@1", "@;", "@return 1;", "@(", "@if a {}",
            "public @fn", "public @a[1];", "secret array @1[1];", "secret array @main[1];", "public array a@;",
            "public array a[@];", "public array a[@b];", "public array a[1@;",
            "public array a[1] @main() { return 0; }",
            "public array a[1@, 2];",
            "fn f() { return 0; } @public array a[1]; main() { return 0; }",
            "fn @main() { return 0; }", "fn @() { return 0; }", "fn f @{ return 0; }", "fn f(@a) { return 0; }",
            "fn f(secret @) { return 0; }", "fn f(secret a @secret b) { return 0; }", "fn f(secret a, @) { return 0; }",
            "fn f(secret a, @b) { return 0; }", "fn f(@, secret a) { return 0; }", "fn f(secret @public) { return 0; }",
            "fn f() @return 0;", "fn f() { return 0; } @", "fn f() { return 0; } @fun g() {}",
            "main @{ return 0; }", "main() { return 0; @out 1; }", "main() { @}", "main() { return @; }",
            "main() { return 0 @}", "main() { return 0; } @main() { return 0; }", "main() { return 0; } @fn",
            "main() { return 0; } @;", "main() { return 0; }\n\n  @}", "@main_() { return 0; }",
        ):
            self.marked(text)

    def test_statements(self):
        for text in (
            "a @;", "a @+ 1;", "a @b = 1;", "a = @;", "a = 1 @out 1;", "a[@] = 1;", "a[1 @= 1;", "a[1] @;",
            "a[1] @+ 1;",
            "a[1] = @;", "a[1]@[2] = 1;", "@(a) = 1;", "a @(1);", "@1 = a;", "@+;",
            "public @1 = 2;", "public @= 2;", "public a @2;", "public a@;", "public a = @;", "secret @secret a = 1;",
            "public @array a[1];",
            "if @{ }", "if a @out 1;", "if a { @return 1; }", "if a { } else @out 1;", "if a { } else @if b { }",
            "@else { }", "if a { } else { } @else { }", "if a { out 1 @} ",
            "for @1 to 2 max 3 { }", "for i @2 max 3 { }", "for i to @max 3 { }", "for i to 2 @{ }",
            "for i to 2 max @{ }", "for i to 2 max @n { }", "for i to 2 max @(3) { }", "for i to 2 max 3 @out 1;",
            "for i to 2 max 3 @+ 1 { }", "for i to 2 max 3 { @return 1; }", "for @to to 2 max 3 { }",
            "out @;", "out 1 @2;", "out @out;", "@fn f() { return 0; }", "@{ }", "@main() {}",
        ):
            self.marked("main() { " + text + " return 0; }")
            self.marked("fn f() { " + text + " return 0; } main() { return 0; }")
            self.marked("main() { if x { " + text + " } return 0; }")

    def test_expressions(self):
        for text in (
            "@", "@+", "@* a", "@- 1", "a @a", "a @1", "1 @a", "a + @", "a @! b", "! @", "! @+ a", "a * @* b", "a @= b",
            "a @, b", "(@)", "(a@", "(a @, b)", "a@)", "a[@]", "a[b@", "a[b @, c]", "a[b]@[c]", "a[b]@(c)",
            "a(b)@(c)", "a(b)@[c]",
            "1@(2)", "1@[2]", "(a)@(b)", "(a)@[b]", "a(@,)", "a(b,@)", "a(b @c)", "a(b@", "a(b,@", "a ? @",
            "a ? b@", "a ? b @;",
            "a ? b : @", "a @: b", "a ? @: b", "a ? b : c @: d", "a ? b @, c", "@if", "@public", "@main",
            "@else", "@div", "a div @mod b",
            "a @{", "a@;", "a @max 3", "a == b @== c", "a < b @<= c", "@?", "a ^ @| b", "a << @>> b", "!(a@",
        ):
            self.marked(text, parse_expr)

    def test_expression_in_a_program(self):
        self.marked("main() { then @return 0; }")
        self.marked("main() { return (a + b@; }")
        self.marked("main() { return a + @; }")
        self.marked("main() { return a @b; }")
        self.marked("main() { if a < b @< c { } return 0; }")
        self.marked("main() { x = a ? b@; return 0; }")

    def test_cut_short(self):
        text = ("public array a[3]; fn f(secret x, public y) { a[1] = 2; return x; }\n"
                "main(public q) {\n  for i to q max 3 { if i { out f(i, a[i] ? 1 : (2)); } else { q = 1; } }\n"
                "  public z = !q;\n  return z; }")
        parse(text)
        for cut in range(len(text)):
            part = text[:cut]
            with self.assertRaises((Unexpected, BadCharacter, BadNumber)) as caught:
                parse(part)
            # A cut within a word may leave another word, which is unexpected itself; at a blank none is cut.
            if cut > 0 and (text[cut] in " \n" or text[cut - 1] in " \n;"):
                row = part.count("\n") + 1
                self.assertEqual((caught.exception.row, caught.exception.column), (row, cut - part.rfind("\n")), part)

    def test_behind_the_whole(self):
        self.refused("main() { return 0; } 1", 1, 22)
        self.refused("main() { return 0; }\n;", 2, 1)
        self.refused("a b", 1, 3, parse_expr)
        self.refused("a + 1)", 1, 6, parse_expr)
        self.refused("", 1, 1, parse_expr)
        self.refused("a\n# c\n;", 3, 1, parse_expr)
        self.assertEqual(parse_expr("a # behind"), A)

    def test_errors_of_tokens_come_first(self):
        self.refused("main( { $", 1, 9, error=BadCharacter)
        self.refused("; 007", 1, 3, error=BadNumber)
        self.refused("a b >", 1, 5, parse_expr, BadCharacter)
        self.refused("main() { return 0; } 08", 1, 22, error=BadNumber)
        self.refused("a + \n 1x", 2, 2, parse_expr, BadNumber)


class TestNested(unittest.TestCase):
    def test_expressions(self):
        for depth in (40, 60):
            self.assertEqual(parse_expr("(" * depth + "a" + ")" * depth), A)
            tree = A
            for _ in range(depth):
                tree = ("op", "-", B, tree)
            self.assertEqual(parse_expr("b - (" * depth + "a" + ")" * depth), tree)
            tree = A
            for _ in range(depth):
                tree = ("op", "-", tree, B)
            self.assertEqual(parse_expr("a" + " - b" * depth), tree)
            tree = A
            for _ in range(depth):
                tree = ("read", "k", ("not", tree))
            self.assertEqual(parse_expr("k[!" * depth + "a" + "]" * depth), tree)
            tree = A
            for _ in range(depth):
                tree = ("call", "f", (B, tree))
            self.assertEqual(parse_expr("f(b, " * depth + "a" + ")" * depth), tree)
            tree = A
            for _ in range(depth):
                tree = ("choose", C, B, tree)
            self.assertEqual(parse_expr("c ? b : " * depth + "a"), tree)
            tree = A
            for _ in range(depth):
                tree = ("choose", C, tree, B)
            self.assertEqual(parse_expr("c ? " * depth + "a" + " : b" * depth), tree)
            tree = A
            for _ in range(depth):
                tree = ("not", tree)
            self.assertEqual(parse_expr("!" * depth + "a"), tree)

    def test_statements(self):
        for depth in (40, 60):
            tree = ("out", A)
            for _ in range(depth):
                tree = ("if", B, (tree,), ())
            self.assertEqual(body("if b { " * depth + "out a; " + "}" * depth), (tree,))
            tree = ("out", A)
            for _ in range(depth):
                tree = ("if", B, (), (tree,))
            self.assertEqual(body("if b { } else { " * depth + "out a; " + "}" * depth), (tree,))
            tree = ("out", A)
            for _ in range(depth):
                tree = ("for", "i", B, 3, (tree,))
            self.assertEqual(body("for i to b max 3 { " * depth + "out a; " + "}" * depth), (tree,))

    def test_error_deep_inside(self):
        text = "if b { " * 40 + "out a; "
        with self.assertRaises(Unexpected) as caught:
            body(text)
        self.assertEqual(caught.exception.column, len("main() { " + text) + 2)
        with self.assertRaises(Unexpected) as caught:
            parse_expr("(" * 40 + "a")
        self.assertEqual(caught.exception.column, 42)


if __name__ == "__main__":
    unittest.main()
