"""The checker (part 2)."""

import unittest

from sameclock import errors
from sameclock.check import check, label_of, typed
from sameclock.errors import DoubleName, FixedName, Leak, UnknownName, WrongCount
from sameclock.parser import parse

HEAD = "public array pub[4]; secret array sec[4];\n"
PROCEDURES = """
fn id(secret x) { return x; }
fn open_id(public x) { return x; }
fn one(secret x) { return 1; }
fn loud(public x) { out x; return 0; }
fn still(secret x, public y) { sec[y] = x; return x; }
"""


def V(number):
    return ("var", number)


def N(number):
    return ("num", number)


def main_of(statements, params="public p, secret s", result="0"):
    return typed(HEAD + PROCEDURES + "main(" + params + ") { " + statements + " return " + result + "; }")[2]


class Case(unittest.TestCase):
    def refused(self, error, word, text):
        with self.assertRaises(errors.ClockError) as caught:
            typed(text)
        self.assertEqual((type(caught.exception).__name__, caught.exception.word), (error.__name__, word), text)
        with self.assertRaises(error):
            check(parse(text))

    def refused_in_main(self, error, word, statements, result="0"):
        self.refused(error, word, HEAD + PROCEDURES + "main(public p, secret s) { " + statements
                     + " return " + result + "; }")


class TestTyped(Case):
    def test_least(self):
        self.assertEqual(typed("main() { return 0; }"), ((), (), ("main", (), (), (), N(0), "public")))

    def test_whole(self):
        self.assertEqual(typed(HEAD + "fn f(secret a, public b) { public c = b; return sec[c]; }"
                               "main(secret s) { return f(s, 2); }"), (
            (("public", "pub", 4), ("secret", "sec", 4)),
            (("f", ("secret", "public"), ("secret", "public", "public"), (("set", 2, V(1)),), ("read", 1, V(2)), "secret"),),
            ("main", ("secret",), ("secret",), (), ("call", 0, (V(0), N(2))), "secret")))

    def test_statements(self):
        self.assertEqual(main_of("public q = p; q = 7; secret t = s; t = q; pub[q] = p; sec[s] = t; out q + 1;")[3], (
            ("set", 2, V(0)), ("set", 2, N(7)), ("set", 3, V(1)), ("set", 3, V(2)), ("store", 0, V(2), V(0)),
            ("store", 1, V(1), V(3)), ("out", ("op", "+", V(2), N(1)))))
        self.assertEqual(main_of("for i to p max 9 { out i; for j to i max 1000 { pub[i] = j; } }")[3], (
            ("for", 2, V(0), 9, (("out", V(2)), ("for", 3, V(2), 1000, (("store", 0, V(2), V(3)),)))),))

    def test_ifs(self):
        self.assertEqual(main_of("if p { out 1; } else { out 2; }")[3],
                         (("if", "public", V(0), (("out", N(1)),), (("out", N(2)),)),))
        self.assertEqual(main_of("if s { s = 1; } if p & s { } else { s = 2; }")[3], (
            ("if", "secret", V(1), (("set", 1, N(1)),), ()),
            ("if", "secret", ("op", "&", V(0), V(1)), (), (("set", 1, N(2)),))))
        self.assertEqual(main_of("if s { if p { s = 1; } if s { } }")[3], (
            ("if", "secret", V(1), (("if", "public", V(0), (("set", 1, N(1)),), ()), ("if", "secret", V(1), (), ())), ()),))

    def test_expressions(self):
        for text, tree in (
            ("4294967295", N(4294967295)), ("p", V(0)), ("pub[p]", ("read", 0, V(0))), ("sec[s]", ("read", 1, V(1))),
            ("id(s)", ("call", 0, (V(1),))), ("still(s, p)", ("call", 4, (V(1), V(0)))),
            ("p div s", ("op", "div", V(0), V(1))), ("p << s == 1", ("op", "==", ("op", "<<", V(0), V(1)), N(1))),
            ("!!p", ("not", ("not", V(0)))), ("p ? s : 1", ("choose", V(0), V(1), N(1))),
            ("open_id(pub[open_id(p)])", ("call", 1, (("read", 0, ("call", 1, (V(0),))),))),
        ):
            self.assertEqual(main_of("", result=text)[4], tree)
            self.assertEqual(main_of("s = " + text + ";")[3], (("set", 1, tree),))

    def test_numbers_of_variables(self):
        main = main_of("secret a = 1; if p { public b = 2; for i to p max 3 { secret c = i; } } else { secret d = 3; }"
                       "for i to p max 3 { public e = i; } public f = 5;", result="a + f")
        self.assertEqual(main[1], ("public", "secret"))
        self.assertEqual(main[2], ("public", "secret", "secret", "public", "public", "secret", "secret", "public",
                                   "public", "public"))
        self.assertEqual(main[3], (
            ("set", 2, N(1)),
            ("if", "public", V(0), (("set", 3, N(2)), ("for", 4, V(0), 3, (("set", 5, V(4)),))), (("set", 6, N(3)),)),
            ("for", 7, V(0), 3, (("set", 8, V(7)),)),
            ("set", 9, N(5))))
        self.assertEqual(main[4], ("op", "+", V(2), V(9)))

    def test_numbers_in_each_procedure(self):
        found = typed("fn f(public a) { secret b = a; return b; } fn g(secret c) { return c; } main() { secret d = 1; return d; }")
        self.assertEqual([one[1:3] for one in found[1]], [(("public",), ("public", "secret")), (("secret",), ("secret",))])
        self.assertEqual(found[2], ("main", (), ("secret",), (("set", 0, N(1)),), V(0), "secret"))

    def test_names_count_again_behind_their_block(self):
        main = main_of("if p { secret a = 1; } else { public a = 2; } public a = 3; for i to a max 2 { } for i to a max 2 { }",
                       result="a")
        self.assertEqual(main[2][2:], ("secret", "public", "public", "public", "public"))
        self.assertEqual(main[4], V(4))
        main_of("for i to p max 2 { secret a = 1; } secret a = 2; secret i = 3; i = 4;")
        main_of("if p { public i = 1; i = 2; } for i to p max 2 { }")
        main_of("for i to p max 2 { public x = i; } for i to p max 2 { public x = i; }")

    def test_names_of_their_own(self):
        found = typed("public array x[2]; fn x(public x) { return x[x]; } main(public y) { for x to 2 max 2 { x[x] = x(x); } return 0; }")
        self.assertEqual(found[1][0][4], ("read", 0, V(0)))
        self.assertEqual(found[2][3], (("for", 1, N(2), 2, (("store", 0, V(1), ("call", 0, (V(1),))),)),))

    def test_declared_name_counts_behind_its_statement(self):
        self.refused_in_main(UnknownName, "a", "secret a = a;")
        self.refused_in_main(UnknownName, "a", "out a; public a = 1;")
        self.refused_in_main(UnknownName, "i", "for i to i max 2 { }")
        self.refused_in_main(UnknownName, "a", "if p { secret a = 1; }", "a")
        self.refused_in_main(UnknownName, "a", "if p { secret a = 1; } else { s = a; }")
        self.refused_in_main(UnknownName, "i", "for i to 2 max 2 { } out i;")
        self.refused_in_main(UnknownName, "a", "for i to 2 max 2 { secret a = 1; } s = a;")
        main_of("public a = 1; if a { for i to a max 3 { out a + i; } }", result="a")

    def test_same_for_equal_trees(self):
        text = HEAD + PROCEDURES + "main(secret s) { sec[s] = id(s); return 1; }"
        tree = parse(text)
        self.assertEqual(check(tree), typed(text))
        self.assertEqual(tree, parse(text))
        self.assertEqual(check(tree), check(tree))

    def test_nested(self):
        for depth in (40, 60):
            main_of("if p { if s { } " * depth + "}" * depth, result="!(p + " * depth + "1" + ")" * depth)
            main_of("for i to p max 3 { }" + "if s { } else { " * depth + "s = " + "id(" * depth + "s" + ")" * depth + ";"
                    + "}" * depth)
            main_of("", result="sec[" * depth + "s" + "]" * depth)
        for depth in (40,):
            text = "".join(f"for i{k} to p max 3 {{ " for k in range(depth)) + "out i0;" + "}" * depth
            self.assertEqual(len(main_of(text)[2]), depth + 2)

    def test_kinds_of_values(self):
        found = typed(HEAD + PROCEDURES + "main(secret s) { if s { s = id(!s ? 1 : 2); } return 1; }")

        def look(thing):
            self.assertIn(type(thing), (tuple, str, int))
            if isinstance(thing, tuple):
                for part in thing:
                    look(part)

        look(found)


class TestLabels(Case):
    def test_label_of(self):
        program = typed(HEAD + PROCEDURES + "fn key() { return sec[0]; } main(public p, secret s) { return 0; }")
        labels = ("public", "secret")
        for tree, label in (
            (N(5), "public"), (V(0), "public"), (V(1), "secret"),
            (("op", "+", V(0), N(1)), "public"), (("op", "+", V(0), V(1)), "secret"), (("op", "div", V(1), V(0)), "secret"),
            (("not", V(0)), "public"), (("not", V(1)), "secret"),
            (("choose", V(0), N(1), N(2)), "public"), (("choose", V(1), N(1), N(2)), "secret"),
            (("choose", V(0), V(1), N(2)), "secret"), (("choose", V(0), N(1), V(1)), "secret"),
            (("read", 0, V(0)), "public"), (("read", 0, V(1)), "secret"), (("read", 1, V(0)), "secret"),
            (("read", 1, N(0)), "secret"), (("read", 0, ("read", 0, N(1))), "public"), (("read", 0, ("read", 1, N(1))), "secret"),
            (("call", 0, (V(0),)), "secret"), (("call", 0, (N(1),)), "secret"),
            (("call", 1, (V(0),)), "public"), (("call", 2, (V(0),)), "public"), (("call", 2, (V(1),)), "secret"),
            (("call", 2, (("call", 2, (V(1),)),)), "secret"), (("call", 2, (("call", 0, (N(1),)),)), "secret"),
            (("call", 3, (V(0),)), "public"), (("call", 5, ()), "secret"),
            (("not", ("op", "==", N(1), ("choose", N(1), N(2), ("read", 0, V(1))))), "secret"),
        ):
            self.assertEqual(label_of(program, labels, tree), label, tree)
        self.assertEqual(label_of(program, ("secret", "public"), V(0)), "secret")
        self.assertEqual(label_of(program, ("secret", "public"), V(1)), "public")

    def test_labels_of_the_text(self):
        for text, label in (
            ("1", "public"), ("p", "public"), ("s", "secret"), ("p + 1 == 2", "public"), ("p < s", "secret"),
            ("!p", "public"), ("!s", "secret"), ("p ? 1 : 2", "public"), ("s ? 1 : 2", "secret"), ("p ? s : 2", "secret"),
            ("p ? 1 : s", "secret"), ("pub[p]", "public"), ("pub[s]", "secret"), ("sec[p]", "secret"), ("sec[0]", "secret"),
            ("one(p)", "public"), ("one(s)", "secret"), ("one(1)", "public"), ("id(1)", "secret"), ("open_id(p)", "public"),
            ("loud(p)", "public"), ("still(p, p)", "secret"), ("one(one(s))", "secret"), ("pub[one(s)]", "secret"),
        ):
            self.assertEqual(main_of("", result=text)[5], label, text)
            self.assertEqual(main_of(f"if {text} {{ }}")[3][0][1], label, text)

    def test_result_label_of_procedures(self):
        found = typed("fn f(secret s) { public r = 1; secret t = 2; return r; } fn g(secret s) { secret t = 2; return t; }"
                      "fn h(secret s) { return g(1); } fn k(secret s) { return f(s); } main(secret s) { return f(1); }")
        self.assertEqual([one[5] for one in found[1]], ["public", "secret", "secret", "secret"])
        self.assertEqual(found[2][5], "public")


class TestLeaks(Case):
    def test_variables(self):
        self.refused_in_main(Leak, "a", "public a = s;")
        self.refused_in_main(Leak, "p", "p = s;")
        self.refused_in_main(Leak, "p", "p = sec[0];")
        self.refused_in_main(Leak, "p", "p = pub[s];")
        self.refused_in_main(Leak, "p", "p = id(1);")
        self.refused_in_main(Leak, "p", "p = one(s);")
        self.refused_in_main(Leak, "p", "p = s - s;")
        self.refused_in_main(Leak, "a", "if s { public a = 1; }")
        self.refused_in_main(Leak, "p", "if s { p = 1; }")
        self.refused_in_main(Leak, "p", "if s { } else { p = 1; }")
        self.refused_in_main(Leak, "p", "if s { if p { p = 1; } }")
        self.refused_in_main(Leak, "p", "if s { for i to 2 max 2 { p = i; } }")
        self.refused_in_main(Leak, "a", "if p { if s { } else { if p { } else { public a = 1; } } }")
        main_of("public a = p; p = pub[a]; a = one(p); secret b = s; b = p; s = sec[s];")
        main_of("if s { secret a = 1; s = p; a = s; } else { s = 2; }")
        main_of("if s { } p = 1; if p { p = 2; public a = 3; } else { p = 4; }")

    def test_stores(self):
        self.refused_in_main(Leak, "pub", "pub[s] = 1;")
        self.refused_in_main(Leak, "pub", "pub[0] = s;")
        self.refused_in_main(Leak, "pub", "if s { pub[0] = 1; }")
        self.refused_in_main(Leak, "pub", "if s { } else { if p { pub[0] = 1; } }")
        main_of("pub[p] = p; sec[p] = p; sec[s] = p; sec[p] = s; sec[s] = s; if s { sec[p] = p; sec[s] = s; }")

    def test_outs(self):
        self.refused_in_main(Leak, "out", "out s;")
        self.refused_in_main(Leak, "out", "out sec[1];")
        self.refused_in_main(Leak, "out", "if s { out 1; }")
        self.refused_in_main(Leak, "out", "if s { } else { out 1; }")
        self.refused_in_main(Leak, "out", "if s { for i to 2 max 2 { out i; } }")
        main_of("out p; if p { out pub[p]; } for i to p max 2 { out i; }")

    def test_loops(self):
        self.refused_in_main(Leak, "i", "for i to s max 2 { }")
        self.refused_in_main(Leak, "i", "for i to pub[s] max 2 { }")
        self.refused_in_main(Leak, "i", "if s { for i to s max 2 { } }")
        main_of("for i to p max 2 { } for i to pub[1] max 2 { }")
        main_of("if s { for i to p max 2 { s = i; sec[i] = s; for j to i max 2 { } } }")

    def test_values_of_calls(self):
        self.refused_in_main(Leak, "open_id", "s = open_id(s);")
        self.refused_in_main(Leak, "still", "s = still(1, s);")
        self.refused_in_main(Leak, "open_id", "s = id(open_id(one(s)));")
        self.refused_in_main(Leak, "open_id", "", "open_id(s)")
        main_of("s = open_id(p) + id(s) + id(p) + still(s, p) + still(p, 1);", result="id(s)")

    def test_calls_under_secrets(self):
        self.refused_in_main(Leak, "loud", "if s { s = loud(1); }")
        self.refused_in_main(Leak, "loud", "if s { } else { s = loud(1); }")
        self.refused_in_main(Leak, "loud", "if s { if loud(1) { } }")
        self.refused_in_main(Leak, "loud", "if s { for i to loud(1) max 2 { } }")
        self.refused_in_main(Leak, "loud", "if s { sec[loud(1)] = 2; }")
        self.refused_in_main(Leak, "loud", "if s { sec[1] = id(loud(1)); }")
        self.refused_in_main(Leak, "loud", "if s { secret t = loud(1); }")
        main_of("if s { s = id(s) + open_id(p) + one(s) + still(s, p); }")
        main_of("if loud(p) + s { } if s + loud(p) { s = 1; } else { } s = loud(p);", result="loud(p)")

    def test_condition_of_a_secret_if(self):
        main_of("if s | loud(1) { }")
        self.refused_in_main(Leak, "loud", "if s { if s | loud(1) { } }")
        self.refused_in_main(Leak, "loud", "if s { } else { if loud(1) { } }")
        main_of("if p { if s | loud(1) { } }")

    def test_quiet_procedures(self):
        arrays = "public array pub[4]; secret array sec[4];"
        for body, quiet in (
            ("return 1;", True), ("return a + pub[b] + sec[a];", True), ("secret c = 1; c = 2; a = 3; return c;", True),
            ("sec[a] = b; sec[b] = a; return 0;", True), ("for i to b max 3 { a = i; } return 0;", True),
            ("if a { sec[1] = a; } if b { a = 1; } return 0;", True),
            ("out 1; return 0;", False), ("out b; return 0;", False), ("public c = 1; return 0;", False), ("b = 1; return 0;", False),
            ("pub[0] = 1; return 0;", False), ("if b { out 1; } return 0;", False), ("if b { } else { b = 1; } return 0;", False),
            ("for i to 0 max 0 { pub[i] = i; } return 0;", False), ("for i to 1 max 1 { public c = i; } return 0;", False),
        ):
            for calling, name in (("", "f"), ("fn g(secret a, public b) { return f(a, b); }", "g"),
                                  ("fn g(secret a, public b) { if b { sec[f(a, b)] = 1; } return 0; }", "g"),
                                  ("fn h(secret a, public b) { return f(a, b); } fn g(secret a, public b) { for i to 1 max 1 "
                                   "{ a = f(a, b) + h(a, b); } return 0; }", "g")):
                text = (arrays + "fn f(secret a, public b) {" + body + "}" + calling
                        + "main(public p, secret s) { s = " + name + "(s, p); if s { s = " + name + "(s, p); } return 0; }")
                if quiet:
                    typed(text)
                else:
                    self.refused(Leak, name, text)

    def test_main_result_may_be_secret(self):
        self.assertEqual(main_of("", result="s")[5], "secret")

    def test_leaks_in_procedures(self):
        for body, word in (("out a;", "out"), ("b = a;", "b"), ("pub[a] = 1;", "pub"), ("for i to a max 2 { }", "i")):
            self.refused(Leak, word, HEAD + "fn f(secret a, public b) { " + body + " return 0; } main() { return 0; }")


class TestNames(Case):
    def test_double_arrays_and_procedures(self):
        self.refused(DoubleName, "a", "public array a[1]; secret array b[1]; secret array a[1]; main() { return 0; }")
        self.refused(DoubleName, "f", "fn f() { return 0; } fn g() { return 0; } fn f() { return 0; } main() { return 0; }")

    def test_double_variables(self):
        for head in ("fn f", "main"):
            rest = " main() { return 0; }" if head == "fn f" else ""
            self.refused(DoubleName, "a", head + "(secret a, public b, public a) { return 0; }" + rest)
        for name in ("p", "s"):
            self.refused_in_main(DoubleName, name, f"secret {name} = 1;")
            self.refused_in_main(DoubleName, name, f"if p {{ public {name} = 1; }}")
            self.refused_in_main(DoubleName, name, f"for {name} to 2 max 2 {{ }}")
        self.refused_in_main(DoubleName, "a", "secret a = 1; public a = 2;")
        self.refused_in_main(DoubleName, "a", "secret a = 1; if p { } else { public a = 2; }")
        self.refused_in_main(DoubleName, "a", "public a = 1; for a to 2 max 2 { }")
        self.refused_in_main(DoubleName, "i", "for i to 2 max 2 { secret i = 1; }")
        self.refused_in_main(DoubleName, "i", "for i to 2 max 2 { for i to 2 max 2 { } }")
        self.refused_in_main(DoubleName, "i", "for i to 2 max 2 { if p { public i = 1; } }")
        self.refused_in_main(DoubleName, "a", "if p { secret a = 1; for j to 2 max 2 { secret a = 1; } }")

    def test_unknown(self):
        for text in ("a", "a + p", "p + a", "!a", "a ? 1 : 2", "1 ? a : 2", "1 ? 2 : a", "a[1]", "pub[a]", "a()", "a(1, 2)", "id(a)",
                     "p[1]", "p(1)", "pub", "id", "pub(1)", "id[1]"):
            name = {"p[1]": "p", "p(1)": "p", "pub": "pub", "id": "id", "pub(1)": "pub", "id[1]": "id"}.get(text, "a")
            self.refused_in_main(UnknownName, name, "", text)
            self.refused_in_main(UnknownName, name, f"secret b = {text};")
            self.refused_in_main(UnknownName, name, f"s = {text};")
            self.refused_in_main(UnknownName, name, f"sec[{text}] = 1;")
            self.refused_in_main(UnknownName, name, f"sec[0] = {text};")
            self.refused_in_main(UnknownName, name, f"if {text} {{ }}")
            self.refused_in_main(UnknownName, name, f"if 1 {{ out {text}; }}")
            self.refused_in_main(UnknownName, name, f"for i to {text} max 3 {{ }}")
        self.refused_in_main(UnknownName, "a", "a = 1;")
        self.refused_in_main(UnknownName, "pub", "pub = 1;")
        self.refused_in_main(UnknownName, "a", "a[1] = 1;")
        self.refused_in_main(UnknownName, "s", "s[1] = 1;")

    def test_procedures_know_those_ahead(self):
        self.refused(UnknownName, "f", "fn f() { return f(); } main() { return 0; }")
        self.refused(UnknownName, "g", "fn f() { return g(); } fn g() { return 0; } main() { return 0; }")
        typed("fn g() { return 0; } fn f() { return g(); } main() { return f() + g(); }")

    def test_variables_of_others(self):
        self.refused(UnknownName, "a", "fn f(public a) { return 0; } main() { return a; }")
        self.refused(UnknownName, "a", "fn f(public a) { return 0; } fn g() { return a; } main() { return 0; }")

    def test_fixed(self):
        self.refused_in_main(FixedName, "i", "for i to 2 max 2 { i = 1; }")
        self.refused_in_main(FixedName, "i", "for i to 2 max 2 { if p { for j to i max 2 { i = j; } } }")
        self.refused_in_main(FixedName, "j", "for i to 2 max 2 { for j to i max 2 { j = i; } }")
        self.refused_in_main(FixedName, "i", "if s { for i to 2 max 2 { i = s; } }")


class TestCounts(Case):
    def test_lengths(self):
        for length in (1, 2, 63, 64):
            self.assertEqual(typed(f"secret array a[{length}]; main() {{ return 0; }}")[0], (("secret", "a", length),))
        for length in (0, 65, 100, 4294967295):
            self.refused(WrongCount, "a", f"secret array a[{length}]; main() {{ return 0; }}")

    def test_values_of_calls(self):
        self.refused_in_main(WrongCount, "id", "", "id()")
        self.refused_in_main(WrongCount, "id", "", "id(1, 2)")
        self.refused_in_main(WrongCount, "still", "", "still(1)")
        self.refused(WrongCount, "f", "fn f() { return 0; } main() { return f(1); }")

    def test_params_of_main(self):
        def text(count, last=""):
            return "main(" + ", ".join(f"public a{k}" for k in range(count)) + last + ") { return 0; }"

        self.assertEqual(len(typed(text(8))[2][1]), 8)
        self.refused(WrongCount, "main", text(9))
        self.refused(WrongCount, "main", text(8, ", secret a1"))
        self.refused(DoubleName, "a1", text(7, ", secret a1"))
        many = ", ".join(f"public a{k}" for k in range(20))
        self.assertEqual(len(typed("fn f(" + many + ") { return 0; } main() { return 0; }")[1][0][1]), 20)

    def test_rounds(self):
        for most in (0, 1, 1000):
            self.assertEqual(main_of(f"for i to p max {most} {{ }}")[3][0][3], most)
        for most in (1001, 4294967295):
            self.refused_in_main(WrongCount, "i", f"for i to p max {most} {{ }}")


class TestOrder(Case):
    def test_program(self):
        self.refused(DoubleName, "a", "public array a[1]; public array a[0]; main() { return x; }")
        self.refused(WrongCount, "a", "public array a[0]; public array a[0]; main() { return x; }")
        self.refused(WrongCount, "b", "public array b[65]; fn f(public a, public a) { return 0; } main() { return 0; }")
        self.refused(DoubleName, "f", "fn f() { return 0; } fn f(public a, public a) { return x; } main() { return 0; }")
        self.refused(DoubleName, "a", "fn f(public a, public a) { out x; return 0; } fn f() { return 0; } main() { return 0; }")
        self.refused(UnknownName, "x", "fn f(public a) { out x; return y; } main(public b, public b) { return 0; }")
        self.refused(UnknownName, "y", "fn f(public a) { out 1; return y; } main() { return z; }")
        self.refused(WrongCount, "main", "main(public a, public a, public c, public d, public e, public f, public g, "
                     "public h, public i) { return y; }")
        self.refused(UnknownName, "y", "fn f() { return y; } main(" + ", ".join(["public a"] * 9) + ") { return 0; }")
        self.refused(DoubleName, "b", "main(public b, public b) { out y; return 0; }")
        self.refused(UnknownName, "y", "main(public b) { out y; return z; }")

    def test_declare(self):
        self.refused_in_main(UnknownName, "x", "public p = x;")
        self.refused_in_main(DoubleName, "p", "public p = s;")
        self.refused_in_main(Leak, "open_id", "public p = open_id(s);")
        self.refused_in_main(DoubleName, "p", "if s { public p = 1; }")

    def test_assign(self):
        self.refused_in_main(UnknownName, "x", "x = y;")
        self.refused_in_main(FixedName, "i", "for i to 2 max 2 { i = y; }")
        self.refused_in_main(UnknownName, "y", "p = s + y;")
        self.refused_in_main(UnknownName, "y", "if s { p = y; }")

    def test_store(self):
        self.refused_in_main(UnknownName, "x", "x[y] = z;")
        self.refused_in_main(UnknownName, "y", "pub[s + y] = z;")
        self.refused_in_main(UnknownName, "z", "pub[s] = z;")
        self.refused_in_main(WrongCount, "id", "if s { pub[0] = id(); }")

    def test_if(self):
        self.refused_in_main(UnknownName, "x", "if x { out s; } else { y = 1; }")
        self.refused_in_main(Leak, "out", "if p { out s; } else { y = 1; }")
        self.refused_in_main(UnknownName, "y", "if p { out p; } else { y = 1; }", "z")

    def test_for(self):
        self.refused_in_main(UnknownName, "x", "for p to s + x max 2000 { y = 1; }")
        self.refused_in_main(Leak, "p", "for p to s max 2000 { y = 1; }")
        self.refused_in_main(WrongCount, "p", "for p to 1 max 2000 { y = 1; }")
        self.refused_in_main(DoubleName, "p", "for p to 1 max 2 { y = 1; }")
        self.refused_in_main(UnknownName, "y", "for i to 1 max 2 { y = 1; }", "z")

    def test_out(self):
        self.refused_in_main(UnknownName, "x", "out s + x;")
        self.refused_in_main(UnknownName, "x", "if s { out x; }")
        self.refused_in_main(Leak, "open_id", "out open_id(s);")

    def test_read(self):
        self.refused_in_main(UnknownName, "x", "", "x[y]")
        self.refused_in_main(UnknownName, "y", "", "pub[y]")

    def test_call(self):
        self.refused_in_main(UnknownName, "x", "", "x(y)")
        self.refused_in_main(WrongCount, "open_id", "", "open_id(y, s)")
        self.refused_in_main(UnknownName, "y", "", "still(s, y)")
        self.refused_in_main(UnknownName, "y", "", "open_id(s + y)")
        self.refused_in_main(Leak, "open_id", "", "still(open_id(s), s)")
        self.refused_in_main(Leak, "still", "", "still(p, s) + z")
        self.refused_in_main(UnknownName, "y", "if s { s = loud(y); }")
        self.refused_in_main(WrongCount, "loud", "if s { s = loud(); }")

    def test_left_to_right(self):
        self.refused_in_main(UnknownName, "x", "", "x + y")
        self.refused_in_main(UnknownName, "x", "", "p ? x : y")
        self.refused_in_main(UnknownName, "x", "", "x ? y : z")
        self.refused_in_main(Leak, "open_id", "", "open_id(s) + y")
        self.refused_in_main(Leak, "p", "p = s; out s;")
        self.refused_in_main(Leak, "out", "out s; p = s;")

    def test_typed_raises_those_of_texts_first(self):
        with self.assertRaises(errors.BadCharacter):
            typed("main() { return x; } $")
        with self.assertRaises(errors.BadNumber):
            typed("main() { return x; } 01")
        with self.assertRaises(errors.Unexpected):
            typed("public array a[0]; main() { return x; } main")
        with self.assertRaises(UnknownName):
            typed("main() { return x; }")


if __name__ == "__main__":
    unittest.main()
