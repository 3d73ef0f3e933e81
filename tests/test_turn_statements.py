"""Each statement turned about, what stays as it is, and how the tokens are told."""

import unittest

from tests.asking import about, asked
from tests.retelling import spaced, told_about, told_so, tokens_of
from tests.test_ordinary import EVERYTHING

AHEAD = "int x , y , r [ 3 ] , q [ 4 ] ;\nproc f ( a , b [ ] ) {\n}\nproc g ( ) {\n}\nmain "

# A statement and, with any blanks, what it is turned about.
STATEMENTS = [
    ("skip;", "skip ;"),
    ("x += y;", "x -= y ;"), ("x -= y;", "x += y ;"), ("x ^= y;", "x ^= y ;"),
    ("r[x] += y;", "r [ x ] -= y ;"), ("r[x] -= q[y];", "r [ x ] += q [ y ] ;"), ("r[0] ^= 1;", "r [ 0 ] ^= 1 ;"),
    ("x += 1 - y;", "x -= 1 - y ;"), ("x -= 1 + y;", "x += 1 + y ;"), ("x ^= y ^ 1;", "x ^= y ^ 1 ;"),
    ("x <=> y;", "x <=> y ;"), ("y <=> x;", "y <=> x ;"), ("r[0] <=> q[1];", "r [ 0 ] <=> q [ 1 ] ;"),
    ("if x { } else { } fi y;", "if y { } else { } fi x ;"),
    ("if x { x += 1; } else { x -= 2; } fi y;", "if y { x -= 1 ; } else { x += 2 ; } fi x ;"),
    ("if x < 3 { skip; x += 1; x ^= 2; } else { } fi y & 1;", "if y & 1 { x ^= 2 ; x -= 1 ; skip ; } else { } fi x < 3 ;"),
    ("if x { } else { skip; x += 1; } fi x;", "if x { } else { x -= 1 ; skip ; } fi x ;"),
    ("from x do { } loop { } until y;", "from y do { } loop { } until x ;"),
    ("from x = 0 do { x += 1; } loop { x -= 2; } until y;", "from y do { x -= 1 ; } loop { x += 2 ; } until x = 0 ;"),
    ("from x do { skip; x += 1; } loop { } until y;", "from y do { x -= 1 ; skip ; } loop { } until x ;"),
    ("from x do { } loop { skip; x += 1; } until y;", "from y do { } loop { x -= 1 ; skip ; } until x ;"),
    ("call f(x, r);", "call f ( x , r ) ;"), ("uncall f(y, q);", "uncall f ( y , q ) ;"),
    ("call g();", "call g ( ) ;"), ("uncall g();", "uncall g ( ) ;"),
    ("local z = x { } delocal y;", "local z = y { } delocal x ;"),
    ("local z = 1 { z += 1; x -= z; } delocal 2;", "local z = 2 { x += z ; z -= 1 ; } delocal 1 ;"),
    ("local z = x + 1 { local w = z { skip; } delocal 3; } delocal y;",
     "local z = y { local w = 3 { skip ; } delocal z ; } delocal x + 1 ;"),
]


def main_of(statements):
    return "int x, y, r[3], q[4]; proc f(a, b[]) { } proc g() { } main { " + statements + " }"


class Statements(unittest.TestCase):
    def assert_about(self, statements, wanted):
        """These statements of main, turned about, are those wanted, whose tokens have a blank between."""
        with self.subTest(statements):
            text = main_of(statements)
            self.assertEqual(asked(text), [9])
            self.assertEqual(about(text), AHEAD + spaced(("{ " + wanted + " }").split()))

    def test_each_by_itself(self):
        for statement, wanted in STATEMENTS:
            self.assert_about(statement, wanted)

    def test_from_the_last_to_the_first(self):
        for first, first_wanted in STATEMENTS:
            for second, second_wanted in STATEMENTS:
                self.assert_about(first + second, second_wanted + " " + first_wanted)
        every = "".join(statement for statement, _ in STATEMENTS)
        self.assert_about(every, " ".join(wanted for _, wanted in reversed(STATEMENTS)))

    def test_within_one_another(self):
        around = [
            ("if x { %s } else { %s } fi 0;", "if 0 { %s } else { %s } fi x ;"),
            ("from 1 do { %s } loop { %s } until y;", "from y do { %s } loop { %s } until 1 ;"),
            ("if x { local o = 7 { %s } delocal 8; } else { %s } fi 1;",
             "if 1 { local o = 8 { %s } delocal 7 ; } else { %s } fi x ;"),
        ]
        for outer, outer_wanted in around:
            for first, first_wanted in STATEMENTS:
                for second, second_wanted in STATEMENTS[-8:]:
                    pair = (first + second, second + first)
                    wanted = (second_wanted + " " + first_wanted, first_wanted + " " + second_wanted)
                    self.assert_about(outer % pair, outer_wanted % wanted)

    def test_a_statement_of_each_kind_in_one(self):
        self.assertEqual(about(EVERYTHING), told_about(EVERYTHING))
        self.assertEqual(about(about(EVERYTHING)), told_so(EVERYTHING))


class Procedures(unittest.TestCase):
    def test_their_blocks_are_turned_about_and_their_order_stays(self):
        text = "proc f(a){a+=1;a^=2;}proc g(b[],c){call f(c);b[0]-=c;uncall f(c);}main{}"
        self.assertEqual(about(text), (
            "proc f ( a ) {\na ^= 2 ;\na -= 1 ;\n}\n"
            "proc g ( b [ ] , c ) {\nuncall f ( c ) ;\nb [ 0 ] += c ;\ncall f ( c ) ;\n}\n"
            "main {\n}\n"))

    def test_one_that_is_called_by_none(self):
        self.assertEqual(about("proc f() { skip; call f(); } main { }"),
                         "proc f ( ) {\ncall f ( ) ;\nskip ;\n}\nmain {\n}\n")

    def test_parameters_stay(self):
        for parameters in ["", "a", "a [ ]", "a , b", "a [ ] , b", "b , a [ ]", "c [ ] , b [ ] , a"]:
            wanted = spaced(("proc f ( " + parameters + " ) { } main { }").split())
            self.assertEqual(about("proc f(" + parameters + "){}main{}"), wanted)
        many = " , ".join("p%d" % k for k in range(16))
        self.assertEqual(about("proc f(" + many + ") { } main { }"), "proc f ( " + many + " ) {\n}\nmain {\n}\n")

    def test_handed_names_stay(self):
        text = "int b, a, r[1]; proc f(x, y[], z) { } main { call f(b, r, a); uncall f(a, r, b); }"
        self.assertTrue(about(text).endswith("main {\nuncall f ( a , r , b ) ;\ncall f ( b , r , a ) ;\n}\n"))

    def test_as_many_as_there_can_be(self):
        text = "".join("proc f%d ( ) {\n}\n" % k for k in range(256)) + "main {\n}\n"
        self.assertEqual(about(text), text)


class Globals(unittest.TestCase):
    def test_none(self):
        self.assertEqual(about("main{}"), "main {\n}\n")
        self.assertEqual(about("proc f(){}main{skip;}"), "proc f ( ) {\n}\nmain {\nskip ;\n}\n")

    def test_they_stay(self):
        for names in ["x", "x , y", "y , x", "r [ 3 ]", "r [ 0 ]", "r [ 4096 ]", "x , r [ 2 ] , y , q [ 1 ]"]:
            self.assertEqual(about("int " + names + ";main{}"), "int " + names + " ;\nmain {\n}\n")
        many = " , ".join("g%d" % k for k in range(256))
        self.assertEqual(about("int " + many + ";main{}"), "int " + many + " ;\nmain {\n}\n")


class Tokens(unittest.TestCase):
    def test_blanks_and_remarks_are_not_told(self):
        plain = "int x , r [ 2 ] ;\nmain {\nx -= r [ 1 ] ;\n}\n"
        tokens = "int x , r [ 2 ] ; main { x += r [ 1 ] ; }".split()
        for blank in ["\t", "\n", "\r", " ", "  \n\n", "#\n", "# x += 1; }\n", "#\xff\x00\n\r"]:
            self.assertEqual(about(blank + blank.join(tokens) + blank), plain)
        self.assertEqual(about("int x,r[2];main{x+=r[1];}#"), plain)
        self.assertEqual(about("int x,r[2];main{x+=r[1];}# }"), plain)

    def test_names_stay_as_they_are_spelled(self):
        for name in ["a", "Z", "aZ_09", "INT", "intx", "rest", "name", "row", "a" * 31, "z_", "A__0"]:
            text = "int %s , zz ;\nproc %s ( %s ) {\n}\nmain {\n%s += zz ;\n}\n" % (name, name, name, name)
            self.assertEqual(about(text), text.replace("+=", "-="))

    def test_numbers_stay_as_they_are_spelled(self):
        for number in ["0", "7", "10", "4294967295", "007", "00", "0" * 40 + "12"]:
            text = "int x ;\nmain {\nx += %s ;\n}\n" % number
            self.assertEqual(about(text), text.replace("+=", "-="))
        for number in ["0", "3", "4096", "003", "000"]:
            text = "int r [ %s ] ;\nmain {\n}\n" % number
            self.assertEqual(about(text), text)

    def test_what_stands_behind_each_token(self):
        told = about(EVERYTHING)
        rest = told
        for token in tokens_of(told):
            self.assertTrue(rest.startswith(token))
            behind = "\n" if token in ("{", "}", ";") else " "
            self.assertEqual(rest[len(token)], behind)
            rest = rest[len(token) + 1:]
        self.assertEqual(rest, "")


if __name__ == "__main__":
    unittest.main()
