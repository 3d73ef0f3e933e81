"""The rules: for each a text that breaks it, with the place marked by @, and one that just keeps it."""

import unittest

from tests.asking import asked, broken, marked


class RuleCase(unittest.TestCase):
    def assert_broken(self, *texts):
        for text in texts:
            with self.subTest(text):
                plain, place = marked(text)
                self.assertEqual(asked(plain), broken(place))

    def assert_kept(self, *texts):
        for text in texts:
            with self.subTest(text):
                self.assertGreaterEqual(asked(text)[0], 0)


class InMain(RuleCase):
    """Statements stand in main, with the plain x, y, z and the rows r, s; or in a procedure with these."""

    frames = [
        "int x, y, z, r[3], s[4]; proc f(a, b[]) { } proc g() { } proc h(a, b) { } proc k(a[], b[]) { } main { %s }",
        "proc f(a, b[]) { } proc g() { } proc h(a, b) { } proc p(x, r[], y, s[], z) { %s } proc k(a[], b[]) { } main { }",
    ]

    def assert_statements_broken(self, *statements):
        for frame in self.frames:
            self.assert_broken(*[frame % statement for statement in statements])

    def assert_statements_kept(self, *statements):
        for frame in self.frames:
            self.assert_kept(*[frame % statement for statement in statements])


class ToldBefore(RuleCase):
    def test_globals(self):
        self.assert_broken("int x, @x; main { }", "int x, y, z, @y; main { }", "int x, @x[3]; main { }",
                           "int x[3], y, @x; main { }", "int x[3], @x[3]; main { }", "int x, @x, x; main { }")
        self.assert_kept("int x, y, X; main { }", "int x, xx; main { }")

    def test_procedures(self):
        self.assert_broken("proc f() { } proc @f() { } main { }", "proc f() { } proc g() { } proc @f(a) { } main { }")
        self.assert_kept("proc f() { } proc g() { } proc F() { } main { }")

    def test_parameters(self):
        self.assert_broken("proc f(a, @a) { } main { }", "proc f(a, b, @a[]) { } main { }",
                           "proc f(a[], @a) { } main { }", "proc g(a) { } proc f(b, c, @c) { } main { }")
        self.assert_kept("proc f(a, b) { } proc g(b, a) { } main { }")

    def test_each_is_told_among_its_own(self):
        self.assert_kept("int f; proc f() { } main { f += 1; call f(); }",
                         "int x; proc f(x) { x += 1; } main { call f(x); }",
                         "int x; proc f(x[]) { x[0] += 1; } main { x += 1; }",
                         "proc f(f) { call f(f); } main { }",
                         "proc f(g) { } proc g(f) { } main { }")

    def test_the_first_of_two_procedures_is_meant(self):
        self.assert_broken("proc e() { call @f(); } proc f(a) { } proc f() { } main { }",
                           "proc e(a) { call f(@a); } proc f(a[]) { } proc f(a) { } main { }",
                           "proc e() { call f(); } proc f() { } proc @f(a) { } main { }")

    def test_a_second_procedure_is_looked_at_too(self):
        self.assert_broken("proc f() { @x += 1; } proc f() { } main { }")
        self.assertEqual(asked("proc f() { } proc f(a) { b += 1; } main { }"), broken(18))

    def test_the_first_of_two_parameters_is_meant(self):
        self.assert_broken("proc e(a, b) { call f(a, @b); } proc f(a, a[]) { } main { }")
        self.assertEqual(asked("proc e(a, b[]) { call f(a, b); } proc f(a, a[]) { } main { }"), broken(43))


class Locals(InMain):
    def test_seen_already(self):
        self.assert_statements_broken(
            "local @x = 1 { } delocal 1;", "local @r = 1 { } delocal 1;",
            "local a = 1 { local @a = 1 { } delocal 1; } delocal 1;",
            "local a = 1 { if 1 { local b = 1 { local @a = 1 { } delocal 1; } delocal 1; } else { } fi 1; } delocal 1;")
        self.assert_statements_kept(
            "local a = 1 { } delocal 1; local a = 2 { } delocal 2;",
            "local a = 1 { local b = 1 { } delocal 1; local b = 1 { } delocal 1; } delocal 1;",
            "if 1 { local a = 1 { } delocal 1; } else { local a = 2 { } delocal 2; } fi 1;",
            "local f = 1 { call g(); } delocal 1;")

    def test_globals_are_not_seen_in_a_procedure_nor_parameters_in_main(self):
        self.assert_kept("int x; proc f() { local x = 1 { x += 1; } delocal 2; } main { }",
                         "proc f(x) { } main { local x = 1 { } delocal 1; }")

    def test_seen_in_its_block_alone(self):
        self.assert_statements_broken(
            "local a = @a { } delocal 1;", "local a = 1 { } delocal @a;", "local a = 1 { } delocal 1; @a += 1;",
            "@a += 1; local a = 1 { } delocal 1;", "local a = 1 { local b = 1 { } delocal @b; } delocal 1;",
            "local a = 1 { local b = 1 { } delocal 1; @b += 1; } delocal 1;",
            "local a = 1 { call h(a, @b); } delocal 1;")
        self.assert_statements_kept(
            "local a = 1 { a += x; x <=> a; local b = a { b += a; } delocal a; call h(a, x); } delocal x;")

    def test_is_no_row(self):
        self.assert_statements_broken("local a = 1 { @a[0] += 1; } delocal 1;",
                                      "local a = 1 { x += @a[0]; } delocal 1;",
                                      "local a = 1 { call f(x, @a); } delocal 1;")
        self.assert_statements_kept("local a = 1 { call f(a, r); } delocal 1;")

    def test_of_another_block_is_not_seen(self):
        self.assert_broken("proc f() { local a = 1 { call g(); } delocal 1; } proc g() { @a += 1; } main { }",
                           "proc f() { @a += 1; } main { local a = 1 { call f(); } delocal 1; }")

    def test_named_like_what_is_changed_around(self):
        self.assert_statements_kept("local a = x { x += a; } delocal x;")


class Variables(InMain):
    def test_not_seen(self):
        self.assert_statements_broken(
            "@q += 1;", "@q[0] += 1;", "x += @q;", "x += 1 + y * @q;", "x += @q[0];", "r[@q] += 1;", "x += r[@q];",
            "x += !(r[(@q)]);", "@q <=> x;", "x <=> @q;", "x <=> @q[0];", "r[@q] <=> x;", "x <=> r[@q];",
            "if @q { } else { } fi 1;", "if 1 { } else { } fi @q;", "if 1 { @q += 1; } else { } fi 1;",
            "if 1 { } else { @q += 1; } fi 1;", "from @q do { } loop { } until 1;", "from 1 do { } loop { } until @q;",
            "from 1 do { @q += 1; } loop { } until 1;", "from 1 do { } loop { @q += 1; } until 1;",
            "local a = @q { } delocal 1;", "local a = 1 { } delocal @q;", "local a = 1 { @q += 1; } delocal 1;",
            "@f += 1;", "x += @g;")

    def test_globals_in_a_procedure_and_parameters_in_main(self):
        self.assert_broken("int x; proc f() { @x += 1; } main { }", "proc f(x) { } main { @x += 1; }",
                           "proc f(x) { } proc g() { @x += 1; } main { }",
                           "int x[2]; proc f(y) { y += @x[0]; } main { }")
        self.assert_kept("int x; proc f(x) { x += 1; } main { x += 1; }",
                         "int x[2]; proc f(x) { x += 1; } main { x[0] += 1; }")

    def test_brackets_where_it_is_no_row(self):
        self.assert_statements_broken("@x[0] += 1;", "y += @x[0];", "y += r[@x[0]];", "@x[0] <=> y;", "y <=> @x[0];",
                                      "if @x[0] { } else { } fi 1;", "if 1 { } else { } fi @x[0];",
                                      "local a = @x[1] { } delocal 1;", "from 1 do { } loop { } until @x[0];")
        self.assert_statements_kept("r[0] += 1;", "y += r[x];")

    def test_no_brackets_where_it_is_a_row(self):
        self.assert_statements_broken("@r += 1;", "x += @r;", "r[@s] += 1;", "@r <=> x;", "x <=> @r;", "@r <=> s[0];",
                                      "if @r { } else { } fi 1;", "from @r do { } loop { } until 1;",
                                      "local a = 1 { } delocal @r;")
        self.assert_statements_kept("x += r[0];", "r[s[0]] += 1;")

    def test_a_row_of_no_words_is_a_row(self):
        self.assert_broken("int x[0]; main { @x += 1; }")
        self.assert_kept("int x[0]; main { x[0] += 1; }")


class WhatIsChanged(InMain):
    def test_within_e(self):
        for sign in ["+=", "-=", "^="]:
            self.assert_statements_broken(
                "x %s @x;" % sign, "x %s 1 + @x;" % sign, "x %s y * (z - !@x);" % sign, "x %s r[@x];" % sign,
                "r[0] %s @r[0];" % sign, "r[0] %s @r[1];" % sign, "r[x] %s s[@r[y]];" % sign)
            self.assert_statements_kept(
                "x %s y;" % sign, "x %s r[y];" % sign, "r[x] %s x;" % sign, "r[x] %s s[x] + x;" % sign)

    def test_within_the_brackets_of_the_variable(self):
        self.assert_statements_broken("r[@r[0]] += 1;", "r[x + @r[0]] -= 1;", "r[s[@r[0]]] ^= x;", "r[@r[0]] <=> x;")
        self.assert_statements_kept("r[s[0]] += 1;", "r[s[x]] += s[x] + x;", "r[x] <=> s[x];")

    def test_either_of_two_that_change_places(self):
        self.assert_statements_broken(
            "x <=> r[@x];", "r[@x] <=> x;", "r[@s[0]] <=> s[0];", "s[0] <=> r[@s[0]];", "r[0] <=> r[@r[0]];",
            "r[y] <=> s[@r[y]];", "r[s[@x]] <=> x;")
        self.assert_statements_kept("r[x] <=> y;", "r[x] <=> r[x];", "r[x] <=> r[y];", "r[s[x]] <=> y;")

    def test_a_variable_may_change_places_with_itself(self):
        self.assert_statements_kept("x <=> x;", "r[0] <=> r[0];")

    def test_other_statements_are_free(self):
        self.assert_statements_kept(
            "if x { x += 1; } else { } fi x;", "from x do { x += 1; } loop { x += 1; } until x;",
            "local a = x { x += 1; a += x; } delocal x;", "x += y; y += x;")

    def test_the_least_place_of_several(self):
        self.assert_statements_broken("x += y + @x + x;", "r[@r[0]] += r[0];")
        self.assertEqual(asked("int r[3]; main { r[r[r[1]]] += r[2]; }"), broken(19))


class Calls(InMain):
    def test_a_procedure_that_there_is_not(self):
        self.assert_statements_broken("call @q();", "uncall @q();", "call @q(x, r);", "call @x();", "call @r(x);")
        self.assert_statements_kept("call g();", "uncall g();")

    def test_another_number_of_parameters(self):
        self.assert_statements_broken("call @g(x);", "call @f();", "call @f(x);", "call @f(x, r, y);",
                                      "uncall @h(x);", "uncall @h(x, y, z);")
        self.assert_statements_kept("call f(x, r);", "uncall h(x, y);")

    def test_handed_names_that_are_not_seen(self):
        self.assert_statements_broken("call f(@q, r);", "call f(x, @q);", "uncall h(@q, q);", "call f(@f, r);",
                                      "call h(x, @g);")
        self.assert_broken("int x; proc f(a) { call f(@x); } main { }", "proc f(a) { } main { call f(@a); }")

    def test_rows_and_plain_ones(self):
        self.assert_statements_broken("call f(@r, s);", "call f(x, @y);", "uncall h(x, @r);", "call k(@x, r);",
                                      "uncall k(r, @x);")
        self.assert_statements_kept("call f(x, r);", "uncall h(x, y);", "call k(r, s);")

    def test_handed_twice(self):
        self.assert_statements_broken("call h(x, @x);", "uncall h(y, @y);", "call k(r, @r);")
        self.assert_statements_kept("call h(x, y); call h(x, z); uncall h(y, x);")
        self.assert_broken("int a, b; proc f(x, y, z) { } main { call f(a, b, @a); }")

    def test_a_procedure_that_calls_itself_or_a_later_one(self):
        self.assert_kept("proc f(a) { call f(a); uncall g(a); } proc g(a) { } main { }")

    def test_the_procedure_is_told_ahead_of_what_is_handed(self):
        self.assert_statements_broken("call @q(q, q);", "call @f(q);", "call @g(r, r);")


class TheLeastPlace(RuleCase):
    def test_whatever_the_rule(self):
        self.assert_broken(
            "int x, @x; proc f(a, a) { } proc f() { } main { q += 1; }",
            "int x; proc f(a, @a) { } proc f() { } main { q += 1; }",
            "int x; proc f(a) { call @q(); } proc f() { } main { q += 1; }",
            "int x; proc f(a) { } proc @f() { } main { q += 1; call f(); }",
            "int x; proc f(a) { } main { local @x = q { } delocal q; call f(); }",
            "int x; proc f(a) { } main { local y = @q { q += 1; } delocal q; }",
            "int x; proc f(a) { } main { local y = 1 { @q += 1; } delocal q; }",
            "int x; proc f(a) { } main { if 1 { @q += 1; } else { q += 1; } fi q; }",
            "int x; proc f(a) { } main { if 1 { } else { @q += 1; } fi q; }",
            "int x; proc f(a) { } main { from @q do { q += 1; } loop { q += 1; } until q; }",
            "int x; proc f(a) { } main { x += @q + x; call f(q); }",
            "int x, r[2]; main { r[@q] += r[0] + q; }",
            "int x, r[2]; main { @x[q] <=> r[q]; }",
            "int x; main { @q += q; }",
        )


if __name__ == "__main__":
    unittest.main()
