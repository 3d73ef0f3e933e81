"""Calls and uncalls, on and back: what is handed over, and how deep they stand within one another."""

import unittest

from tests.asking import (
    LARGEST, MOST_STEPS, STEPS_OVER, BothWays, by_zero, marked, outside, ran, ran_back, unfulfilled,
)

FIBONACCI = """int n, first, second;
proc fibonacci(n, a, b) {
    if n = 0 { a += 1; b += 1; }
    else { n -= 1; call fibonacci(n, a, b); a += b; a <=> b; }
    fi a = b;
}
main { call fibonacci(n, first, second); }
"""


class Ways(BothWays):
    TEXT = "int x; proc f(a) { a += 1; a ^= 6; } main { %s f(x); }"

    def test_a_call(self):
        self.assert_both(self.TEXT % "call", [1], 3, [4])
        self.assertEqual(ran(self.TEXT % "call", [2]), [3, 5])

    def test_an_uncall(self):
        self.assert_both(self.TEXT % "uncall", [4], 3, [1])
        self.assertEqual(ran(self.TEXT % "uncall", [2]), [3, 3])

    def test_calls_within_calls(self):
        text = "int x; proc f(a) { a += 1; a ^= 6; } proc g(a) { %s f(a); a += 100; } main { %s g(x); }"
        self.assert_both(text % ("call", "call"), [1], 5, [104])
        self.assert_both(text % ("uncall", "call"), [4], 5, [101])
        self.assert_both(text % ("call", "uncall"), [104], 5, [1])
        self.assert_both(text % ("uncall", "uncall"), [101], 5, [4])

    def test_a_call_and_its_uncall_undo_each_other(self):
        text = "int x; proc f(a) { a += 1; a ^= 6; } main { call f(x); uncall f(x); }"
        self.assert_both(text, [1], 6, [1])
        text = "int x; proc f(a) { a += 1; a ^= 6; } main { uncall f(x); x += 0; call f(x); }"
        self.assert_both(text, [9], 7, [9])

    def test_statements_within_what_is_done_back(self):
        text = """int x, y;
            proc f(a, b) {
                if a = 0 { b += 5; a += 1; } else { b ^= 1; } fi a = 1;
                from b = 5 do { b += 1; } loop { b ^= 8; } until a = 1;
                local c = b { a += c; c -= 6; } delocal 0;
            }
            main { %s f(x, y); }"""
        self.assert_both(text % "call", [0, 0], 10, [7, 6])
        self.assert_both(text % "uncall", [7, 6], 10, [0, 0])

    def test_places_in_what_is_done_back(self):
        for body, on, back in [
            ("if 0 { } else { } fi 1;", "fi", "if"), ("if 1 { } else { } fi 0;", "fi", "if"),
            ("from 0 do { } loop { } until 0;", "from", "until"), ("from 1 do { } loop { } until 0;", "from", "until"),
            ("from 0 do { } loop { } until 1;", "from", "until"), ("local c = 1 { } delocal 2;", "delocal", "local"),
        ]:
            for word, way, culprit in [("call", ran, on), ("uncall", ran, back), ("call", ran_back, back),
                                       ("uncall", ran_back, on)]:
                text = "proc p() { %s } main { %s p(); }" % (body, word)
                with self.subTest(text=text, culprit=culprit):
                    self.assertEqual(way(text), unfulfilled(text.index(culprit)))


class HandedOver(BothWays):
    def test_single_words_by_their_order(self):
        text = "int x, y; proc f(y, x) { y += 1; x += 10; } main { call f(x, y); call f(y, x); }"
        self.assert_both(text, [0, 0], 6, [11, 11])
        self.assert_both("int x, y; proc f(y, x) { y += x; } main { call f(y, x); }", [3, 4], 2, [3, 7])

    def test_what_is_handed_over_is_changed(self):
        text = "int x, y, z; proc f(a, b) { a <=> b; b += 1; } main { call f(x, z); }"
        self.assert_both(text, [1, 2, 3], 3, [3, 2, 2])

    def test_rows(self):
        text = "int r[2], s[3]; proc f(a[], b[]) { a[1] += b[2]; b[0] <=> a[0]; } main { call f(r, s); }"
        self.assert_both(text, [1, 2, 3, 4, 5], 3, [3, 7, 1, 4, 5])
        text = text.replace("call f(r, s)", "call f(s, r)").replace("b[2]", "b[1]")
        self.assert_both(text, [1, 2, 3, 4, 5], 3, [3, 2, 1, 6, 5])

    def test_a_row_has_as_many_words_as_the_one_that_is_handed_over(self):
        text, place = marked("int i, r[2], s[3]; proc f(i, a[]) { @a[i] += 1; } main { call f(i, r); call f(i, s); }")
        self.assertEqual(ran(text, [1, 0, 0, 0, 0, 0]), [4, 1, 0, 1, 0, 1, 0])
        self.assertEqual(ran(text, [2, 0, 0, 0, 0, 0]), outside(place))
        self.assertEqual(ran(text.replace("call f(i, r);", ""), [2, 0, 0, 0, 0, 0]), [2, 2, 0, 0, 0, 0, 1])
        self.assertEqual(ran(text.replace("s[3]", "s[0]"), [0, 0, 0]), outside(place))

    def test_rows_beside_single_words(self):
        text = "int r[2], x, s[2], y; proc f(a, b[], c) { b[a] += c; } main { call f(x, s, y); uncall f(y, r, x); }"
        self.assert_both(text, [5, 6, 1, 7, 8, 0], 4, [4, 6, 1, 7, 8, 0])

    def test_parameters_handed_on(self):
        text = """int x, r[2];
            proc f(a, b[]) { b[0] += a; call g(b, a); }
            proc g(a[], b) { b += a[0]; a[1] += 1; }
            main { call f(x, r); }"""
        self.assert_both(text, [3, 4, 5], 5, [10, 7, 6])

    def test_locals_handed_over(self):
        text = "int x; proc f(a, b) { a += 2; b += a; } main { local c = 5 { call f(c, x); } delocal 7; }"
        self.assert_both(text, [1], 4, [8])

    def test_locals_of_a_procedure_are_its_own(self):
        text = """int x;
            proc f(a) { local c = 1 { a += c; c += 2; } delocal 3; }
            main { local c = 7 { call f(x); x += c; } delocal 7; }"""
        self.assert_both(text, [0], 6, [8])

    def test_no_parameters(self):
        self.assert_both("proc f() { skip; } main { call f(); uncall f(); }", [], 4, [])

    def test_sixteen_parameters(self):
        names = ",".join("p%d" % k for k in range(16))
        given = ",".join("g%d" % k for k in range(16))
        changes = "".join("p%d += %d;" % (k, k + 1) for k in range(16))
        text = "int %s; proc f(%s) { %s } main { call f(%s); }" % (given, names, changes, given)
        self.assert_both(text, [0] * 16, 17, list(range(1, 17)))

    def test_a_procedure_that_is_called_ahead_of_where_it_stands(self):
        text = "int x; proc f(a) { a += 1; call g(a); } proc g(a) { a ^= 4; uncall h(a); } proc h(a) { a += 2; } main { call f(x); }"
        self.assert_both(text, [0], 6, [3])

    def test_each_of_256_procedures(self):
        procedures = "".join("proc f%d(a) { a ^= %d; a += %d; }" % (k, k, k) for k in range(256))
        for k in [0, 1, 128, 254, 255]:
            self.assert_both("int x; %s main { call f%d(x); }" % (procedures, k), [5], 3, [(5 ^ k) + k])


class WhereItCanNotGoOn(unittest.TestCase):
    def test_places_within_procedures(self):
        text, place = marked("int x; proc f(a) { a += 1 @/ 0; } main { call f(x); }")
        self.assertEqual(ran(text, [0]), by_zero(place))
        self.assertEqual(ran_back(text, [0]), by_zero(place))
        text, place = marked("int r[2]; proc f(a[]) { @a[2] += 1; } main { uncall f(r); }")
        self.assertEqual(ran(text, [0, 0]), outside(place))
        self.assertEqual(ran_back(text, [0, 0]), outside(place))


class Deep(BothWays):
    def test_fibonacci(self):
        self.assert_both(FIBONACCI, [0, 0, 0], 4, [0, 1, 1])
        self.assert_both(FIBONACCI, [4, 0, 0], 24, [0, 5, 8])
        self.assert_both(FIBONACCI, [10, 0, 0], 54, [0, 89, 144])
        self.assert_both(FIBONACCI.replace("call fibonacci(n, first", "uncall fibonacci(n, first"), [0, 89, 144], 54, [10, 0, 0])

    def test_many_thousands_deep(self):
        for n in [50000, 150000]:
            on = ran(FIBONACCI, [n, 0, 0])
            self.assertEqual(on[:2], [4 + 5 * n, 0])
            self.assertEqual(ran_back(FIBONACCI, on[1:]), [4 + 5 * n, n, 0, 0])

    def test_as_deep_as_there_are_steps(self):
        endless = "proc f() { call f(); } main { call f(); }"
        for steps in [1, 2, 1000, MOST_STEPS]:
            self.assertEqual(ran(endless, [], steps), STEPS_OVER)
            self.assertEqual(ran_back(endless, [], steps), STEPS_OVER)

    def test_each_level_has_its_own_local(self):
        text = """int n, x;
            proc f(n, x) {
                if n = 0 { skip; }
                else { local a = n { n -= 1; call f(n, x); x += a; n += 1; } delocal n; }
                fi n = 0;
            }
            main { call f(n, x); }"""
        n = 30000
        self.assert_both(text, [n, 0], 1 + 6 * n + 2, [n, n * (n + 1) // 2])

    def test_procedures_that_call_each_other(self):
        text = """int n, odd;
            proc even(n, o) { if n = 0 { skip; } else { n -= 1; call uneven(n, o); n += 1; } fi n = 0; }
            proc uneven(n, o) { if n = 0 { o ^= 1; } else { n -= 1; call even(n, o); n += 1; } fi n = 0; }
            main { call even(n, odd); }"""
        for n in [0, 1, 20000, 20001]:
            self.assert_both(text, [n, 0], 3 + 4 * n, [n, n % 2])

    def test_uncalls_within_one_another(self):
        # Each level goes the other way than the one around it.
        text = """int n, x;
            proc f(n, x) { if n = 0 { skip; } else { n -= 1; x += n; uncall f(n, x); n += 1; } fi n = 0; }
            main { uncall f(n, x); }"""
        self.assert_both(text, [0, 5], 3, [0, 5])
        # Back, 1 is taken from n, f is done on with 0, n = 0 is taken from x, 1 is added to n.
        self.assert_both(text, [1, 5], 8, [1, 5])
        # Back, f is done on with 1, which adds 0 to x; then 1 is taken from x.
        self.assert_both(text, [2, 5], 13, [2, 4])
        # Levels take and add by turns: 0 + 1 - 2 + 3 .., the outermost takes.
        self.assert_both(text, [40001, 0], 3 + 5 * 40001, [40001, LARGEST + 1 - 20000])


if __name__ == "__main__":
    unittest.main()
