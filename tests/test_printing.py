"""Trees as texts (points 1.8 and 1.9)."""

import random
import unittest

from sameclock.parser import parse, parse_expr
from sameclock.printing import print_expr, print_program
from trees import random_expr, random_program

A = ("name", "a")
B = ("name", "b")
C = ("name", "c")
LEVELS = [["|"], ["^"], ["&"], ["==", "<", "<="], ["<<", ">>"], ["+", "-"], ["*", "div", "mod"]]
ALL_SIGNS = [sign for signs in LEVELS for sign in signs]


def level(sign):
    return [sign in signs for signs in LEVELS].index(True) + 1


def op(sign, a, b):
    return ("op", sign, a, b)


class TestExprs(unittest.TestCase):
    def shown(self, tree, text):
        self.assertEqual(print_expr(tree), text)
        self.assertEqual(parse_expr(text), tree)

    def test_primaries(self):
        self.shown(("num", 4294967295), "4294967295")
        self.shown(A, "a")
        self.shown(("read", "key", op("+", A, B)), "key[a + b]")
        self.shown(("read", "key", ("read", "key", A)), "key[key[a]]")
        self.shown(("call", "f", ()), "f()")
        self.shown(("call", "f", (A,)), "f(a)")
        self.shown(("call", "f", (A, op("*", B, C), ("choose", A, B, C))), "f(a, b * c, a ? b : c)")
        self.shown(("read", "key", ("choose", A, B, C)), "key[a ? b : c]")

    def test_not(self):
        self.shown(("not", A), "!a")
        self.shown(("not", ("not", A)), "!!a")
        self.shown(("not", ("call", "f", (("not", A),))), "!f(!a)")
        self.shown(("not", ("read", "k", A)), "!k[a]")
        self.shown(("not", ("choose", A, B, C)), "!(a ? b : c)")
        for sign in ALL_SIGNS:
            self.shown(("not", op(sign, A, B)), f"!(a {sign} b)")
            self.shown(op(sign, ("not", A), ("not", B)), f"!a {sign} !b")

    def test_choose(self):
        self.shown(("choose", A, B, C), "a ? b : c")
        inner = ("choose", A, B, C)
        self.shown(("choose", inner, B, C), "(a ? b : c) ? b : c")
        self.shown(("choose", A, inner, C), "a ? a ? b : c : c")
        self.shown(("choose", A, B, inner), "a ? b : a ? b : c")
        self.shown(("choose", ("not", A), ("not", B), ("not", C)), "!a ? !b : !c")
        for sign in ALL_SIGNS:
            plain = op(sign, A, B)
            self.shown(("choose", plain, plain, plain), f"a {sign} b ? a {sign} b : a {sign} b")
            self.shown(op(sign, inner, C), f"(a ? b : c) {sign} c")
            self.shown(op(sign, C, inner), f"c {sign} (a ? b : c)")

    def test_parentheses(self):
        for out in ALL_SIGNS:
            for inside in ALL_SIGNS:
                left_need = level(out) + 1 if level(out) == 4 else level(out)
                left = f"a {inside} b {out} c" if level(inside) >= left_need else f"(a {inside} b) {out} c"
                self.shown(op(out, op(inside, A, B), C), left)
                right = f"a {out} b {inside} c" if level(inside) > level(out) else f"a {out} (b {inside} c)"
                self.shown(op(out, A, op(inside, B, C)), right)

    def test_no_newline(self):
        self.assertNotIn("\n", print_expr(op("+", A, op("-", B, C))))

    def test_random(self):
        chance = random.Random(5)
        for _ in range(1500):
            tree = random_expr(chance, 5)
            text = print_expr(tree)
            self.assertEqual(parse_expr(text), tree, text)
            self.fewest(text, tree)

    def fewest(self, text, tree):
        """No pair of parentheses that is not a call's may be left out."""
        for at, char in enumerate(text):
            if char == "(" and (at == 0 or text[at - 1] in " (!["):
                depth = 0
                for end in range(at, len(text)):
                    depth += {"(": 1, ")": -1}.get(text[end], 0)
                    if depth == 0:
                        break
                less = text[:at] + text[at + 1:end] + text[end + 1:]
                try:
                    other = parse_expr(less)
                except ValueError:
                    continue
                self.assertNotEqual(other, tree, text)


class TestPrograms(unittest.TestCase):
    def shown(self, text):
        self.assertEqual(print_program(parse(text)), text)

    def test_statements(self):
        self.shown("main() {\n  return 0;\n}\n")
        self.shown("""\
public array a[1];
secret array key[64];
fn f() {
  return 1;
}
fn g(public a, secret b) {
  public c = a + 1;
  secret d = !b;
  c = 2;
  key[c] = d * (b + 1);
  out c;
  return key[a];
}
main(secret s, public p) {
  s = f();
  out g(p, s);
  return s ? 1 : 2;
}
""")

    def test_blocks(self):
        self.shown("""\
main(secret s) {
  if s {
    s = 1;
  }
  if s == 1 {
    s = 1;
  } else {
    s = 2;
    s = 3;
  }
  if s {
  }
  if s {
  } else {
    s = 4;
  }
  for i to 3 + 4 max 1000 {
    for j to i max 2 {
      if i < j {
        out i;
      } else {
        if i {
          out j;
        }
      }
    }
  }
  for i to (0 < 1) < 2 max 0 {
  }
  return s;
}
""")

    def test_other_texts(self):
        self.assertEqual(print_program(parse(
            "secret array k[2];#c\nfn f(secret a){return(a);}main(){if(1){}else{}out((1+2))*3;return f ( 2 );}")),
            "secret array k[2];\nfn f(secret a) {\n  return a;\n}\nmain() {\n  if 1 {\n  }\n"
            "  out (1 + 2) * 3;\n  return f(2);\n}\n")

    def test_random(self):
        for number in range(300):
            tree = random_program(number)
            text = print_program(tree)
            self.assertEqual(parse(text), tree)
            self.assertTrue(text.endswith("}\n"))
            for row in text.split("\n"):
                self.assertEqual(row, row.rstrip())
                self.assertNotIn("  ", row.lstrip())
                self.assertEqual((len(row) - len(row.lstrip())) % 2, 0)

    def test_nested(self):
        depth = 40
        self.shown("main() {\n" + "".join("  " * (k + 1) + "if 1 {\n" for k in range(depth))
                   + "".join("  " * (depth - k) + "}\n" for k in range(depth)) + "  return 0;\n}\n")
        text = "1 - (" * depth + "1 - 1" + ")" * depth
        self.assertEqual(print_expr(parse_expr(text)), text)


if __name__ == "__main__":
    unittest.main()
