"""Texts without a fault: check answers how many words their globals have."""

import unittest

from tests.asking import asked

EVERYTHING = """# every kind of statement
int n, total, row[10], spare[0], last;
proc nothing() { }
proc add(a, b[], c) {
    a += b[c];
    local k = 3 { b[k] ^= a * k; } delocal 1 + 2;
    call nothing();
}
proc again(a) {
    if a { uncall again(a); } else { skip; } fi a;
}
main {
    n += 1; total -= 2; last ^= 3;
    row[n + 1] += last; row[1] <=> row[2]; n <=> total;
    if n = 1 { skip; } else { } fi n;
    from n = 0 do { n += 1; } loop { skip; } until n = 10;
    call add(n, row, last);
    uncall add(total, spare, n);
    call nothing();
    local x = n { x += row[n]; x -= row[n]; } delocal n;
    skip;
}
"""

OPERATORS = ["|", "^", "&", "=", "!=", "<=", "<", "+", "-", "*", "/", "%"]


class Globals(unittest.TestCase):
    def test_none(self):
        self.assertEqual(asked("main { }"), [0])
        self.assertEqual(asked("proc f() { } main { }"), [0])

    def test_single_words(self):
        self.assertEqual(asked("int x; main { }"), [1])
        self.assertEqual(asked("int x, y, z; main { }"), [3])

    def test_rows(self):
        self.assertEqual(asked("int x[7]; main { }"), [7])
        self.assertEqual(asked("int x[0]; main { }"), [0])
        self.assertEqual(asked("int a, x[7], b, y[10]; main { }"), [19])

    def test_all_at_once(self):
        self.assertEqual(asked(EVERYTHING), [13])


class Procedures(unittest.TestCase):
    def test_parameters(self):
        for parameters in ["", "a", "a[]", "a, b", "a, b[]", "a[], b", "a[], b[], c"]:
            with self.subTest(parameters):
                self.assertEqual(asked("proc f(%s) { } main { }" % parameters), [0])

    def test_several_and_called_ahead_of_where_they_stand(self):
        self.assertEqual(asked("proc f(a) { call g(a); } proc g(a) { uncall f(a); } main { }"), [0])


class Statements(unittest.TestCase):
    def test_each_by_itself(self):
        statements = [
            "skip;", "x += y;", "x -= 1;", "x ^= !y;", "r[x] += y;", "x += r[y];", "r[r2[x]] += 1;",
            "x <=> y;", "r[0] <=> x;", "x <=> r[y];", "r[1] <=> r2[2];",
            "if x { } else { } fi y;", "if x { skip; } else { y += 1; } fi y;",
            "from x do { } loop { } until y;", "from x do { skip; skip; } loop { skip; } until y;",
            "call f(x, r);", "uncall f(x, r);", "call g();", "uncall g();",
            "local z = x { } delocal y;", "local z = 1 { z += x; local w = z { } delocal z; } delocal 0;",
        ]
        for statement in statements:
            text = "int x, y, r[3], r2[4]; proc f(a, b[]) { } proc g() { } main { %s }" % statement
            with self.subTest(statement):
                self.assertEqual(asked(text), [9])
        together = " ".join(statements)
        self.assertEqual(
            asked("int x, y, r[3], r2[4]; proc f(a, b[]) { } proc g() { } main { %s }" % together), [9])


class Expressions(unittest.TestCase):
    def test_each_operator(self):
        for sign in OPERATORS:
            with self.subTest(sign):
                self.assertEqual(asked("int x, y; main { x += y %s 2; }" % sign), [2])
                self.assertEqual(asked("int x, y; main { x += y%s2; }" % sign), [2])
                self.assertEqual(asked("int x, y; main { x += y %s 2 %s 3; }" % (sign, sign)), [2])

    def test_operands(self):
        for operand in ["0", "4294967295", "y", "r[0]", "r[r[y]]", "!y", "!!0", "!r[y]", "(y)", "((1))",
                        "!(y + 1)", "(!y)", "r[(y)]", "r[!y]"]:
            with self.subTest(operand):
                self.assertEqual(asked("int x, y, r[2]; main { x += %s; }" % operand), [4])

    def test_all_operators_in_one(self):
        chain = "y".join(" %s " % sign for sign in OPERATORS)
        self.assertEqual(asked("int x, y; main { if y %s y { } else { } fi 1; }" % chain), [2])


if __name__ == "__main__":
    unittest.main()
