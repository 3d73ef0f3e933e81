"""( ) stand in the expressions of a text turned about just where they must."""

import itertools
import random
import unittest

from tests.asking import about
from tests.retelling import LEVELS, shortened, tokens_of

OPERATORS = [sign for level in LEVELS for sign in level]
STRENGTHS = {sign: strength for strength, level in enumerate(LEVELS) for sign in level}

# Each kind of place where an expression stands; what is turned about has it once.
PLACES = [
    ("x += %s;", "x -= %s;\n"), ("x -= %s;", "x += %s;\n"), ("x ^= %s;", "x ^= %s;\n"),
    ("s[%s] += 1;", "s [ %s] -= 1 ;\n"), ("s[%s] <=> x;", "s [ %s] <=> x ;\n"), ("x <=> s[%s];", "x <=> s [ %s] ;\n"),
    ("if %s { } else { } fi 1;", "if 1 {\n}\nelse {\n}\nfi %s;\n"),
    ("if 1 { } else { } fi %s;", "if %s{\n}\nelse {\n}\nfi 1 ;\n"),
    ("from %s do { } loop { } until 1;", "from 1 do {\n}\nloop {\n}\nuntil %s;\n"),
    ("from 1 do { } loop { } until %s;", "from %sdo {\n}\nloop {\n}\nuntil 1 ;\n"),
    ("local l = %s { } delocal 1;", "local l = 1 {\n}\ndelocal %s;\n"),
    ("local l = 1 { } delocal %s;", "local l = %s{\n}\ndelocal 1 ;\n"),
]
GLOBALS = "int x , s [ 9 ] , a , b , c , d , r [ 9 ] , q [ 9 ] ;\n"


class Expressions(unittest.TestCase):
    def assert_told(self, expression, wanted, places=PLACES[:1]):
        """Wanted has its tokens with blanks between; blanks are left out of what is handed in."""
        told = " ".join(tokens_of(wanted)) + " "
        for ahead, behind in places:
            with self.subTest(expression=expression, place=ahead):
                text = GLOBALS + "main { " + ahead.replace("%s", expression) + " }"
                self.assertEqual(about(text), GLOBALS + "main {\n" + behind.replace("%s", told) + "}\n")

    def test_operands(self):
        for operand in ["0", "17", "4294967295", "a", "r[1]", "r[a]", "r[q[a]]", "!a", "!0", "!!a", "!r[a]", "r[!a]"]:
            self.assert_told(operand, operand, PLACES)
            for needless in ["(%s)", "((%s))", "(((%s)))", "( %s\n)"]:
                self.assert_told(needless % operand, operand, PLACES)
            self.assert_told("!(%s)" % operand, "!" + operand)
            self.assert_told("!!((%s))" % operand, "!!" + operand)
            self.assert_told("r[(%s)]" % operand, "r[%s]" % operand)

    def test_each_operator_by_itself(self):
        for sign in OPERATORS:
            self.assert_told("a%sb" % sign, "a%sb" % sign, PLACES)
            self.assert_told("(a%sb)" % sign, "a%sb" % sign, PLACES)
            self.assert_told("((a)%s((b)))" % sign, "a%sb" % sign)

    def test_each_as_the_left_and_as_the_right_operand_of_each_other(self):
        for outer, inner in itertools.product(OPERATORS, repeat=2):
            bare = "a%sb%sc"
            left_must = STRENGTHS[inner] < STRENGTHS[outer]
            right_must = STRENGTHS[inner] <= STRENGTHS[outer]
            left = "(a%sb)%sc" % (inner, outer)
            right = "a%s(b%sc)" % (outer, inner)
            self.assert_told(left, left if left_must else bare % (inner, outer), PLACES)
            self.assert_told(right, right if right_must else bare % (outer, inner), PLACES)
            self.assert_told(bare % (outer, inner), bare % (outer, inner))

    def test_both_operands(self):
        for outer, first, second in itertools.product(OPERATORS, repeat=3):
            left = "(a%sb)" if STRENGTHS[first] < STRENGTHS[outer] else "a%sb"
            right = "(c%sd)" if STRENGTHS[second] <= STRENGTHS[outer] else "c%sd"
            self.assert_told("(a%sb)%s(c%sd)" % (first, outer, second), left % first + outer + right % second)

    def test_grouping_from_the_left(self):
        for sign in OPERATORS:
            chain = "a%sb%sc%sd" % (sign, sign, sign)
            self.assert_told(chain, chain)
            self.assert_told("((a%sb)%sc)%sd" % (sign, sign, sign), chain)
            right = "a%s(b%s(c%sd))" % (sign, sign, sign)
            self.assert_told(right, right)
            middle = "(a%s(b%sc))%sd" % (sign, sign, sign)
            self.assert_told(middle, "a%s(b%sc)%sd" % (sign, sign, sign))
        self.assert_told("a-(b+c)", "a-(b+c)")
        self.assert_told("(a-b)+c", "a-b+c")
        self.assert_told("a*(b/c)", "a*(b/c)")
        self.assert_told("(a*b)%c", "a*b%c")
        self.assert_told("a=(b<c)", "a=(b<c)")
        self.assert_told("(a!=b)<=c", "a!=b<=c")

    def test_what_would_be_worth_the_same_without(self):
        # It is grouped otherwise without ( ), whatever it is worth.
        for sign in ["|", "^", "&", "+", "*"]:
            self.assert_told("a%s(b%sc)" % (sign, sign), "a%s(b%sc)" % (sign, sign))

    def test_not(self):
        for sign in OPERATORS:
            self.assert_told("!(a%sb)" % sign, "!(a%sb)" % sign, PLACES)
            self.assert_told("!((a%sb))" % sign, "!(a%sb)" % sign)
            self.assert_told("!!(a%sb)" % sign, "!!(a%sb)" % sign)
            self.assert_told("!(!(a%sb))" % sign, "!!(a%sb)" % sign)
            self.assert_told("(!a)%sb" % sign, "!a%sb" % sign)
            self.assert_told("a%s(!b)" % sign, "a%s!b" % sign)
            self.assert_told("(!(a))%s(!(b))" % sign, "!a%s!b" % sign)
            self.assert_told("(!(a%sb))%s(c)" % (sign, sign), "!(a%sb)%sc" % (sign, sign))
            self.assert_told("!a%sb" % sign, "!a%sb" % sign)

    def test_an_index(self):
        for sign in OPERATORS:
            self.assert_told("r[a%sb]" % sign, "r[a%sb]" % sign, PLACES)
            self.assert_told("r[(a%sb)]" % sign, "r[a%sb]" % sign, PLACES)
            self.assert_told("(r[((a%sb))])" % sign, "r[a%sb]" % sign)
            self.assert_told("!(r[(a%sb)])" % sign, "!r[a%sb]" % sign)
            self.assert_told("(r[a%sb])*(q[c])" % sign, "r[a%sb]*q[c]" % sign)
            self.assert_told("r[a%s(b%sc)]" % (sign, sign), "r[a%s(b%sc)]" % (sign, sign))
        self.assert_told("r[(q[(a|b)]+c)]*d", "r[q[a|b]+c]*d")

    def test_within_one_another(self):
        self.assert_told("(((a+b))*((c)))", "(a+b)*c")
        self.assert_told("((((a|b)^c)&d)=a)", "(((a|b)^c)&d)=a")
        self.assert_told("(a|(b^(c&(d=(a+(b*c))))))", "a|b^c&d=a+b*c")
        self.assert_told("((((((a*b)+c)=d)&a)^b)|c)", "a*b+c=d&a^b|c")
        self.assert_told("a-((b-(c-d)))", "a-(b-(c-d))")

    def test_expressions_by_chance(self):
        chance = random.Random(5)
        changed = 0
        for _ in range(1500):
            tokens = by_chance(chance, 4)
            wanted = shortened(tokens)
            changed += wanted != tokens
            self.assert_told("".join(tokens), " ".join(wanted), [chance.choice(PLACES)])
        self.assertGreater(changed, 500)


def by_chance(chance, depth):
    kind = chance.randrange(9) if depth > 0 else 8
    if kind < 4:
        sign = chance.choice(OPERATORS)
        return by_chance(chance, depth - 1) + [sign] + by_chance(chance, depth - 1)
    if kind < 7:
        return ["("] + by_chance(chance, depth - 1) + [")"]
    if kind == 7 and chance.randrange(2) == 0:
        return ["!"] + by_chance(chance, 0) if chance.randrange(2) else ["!", "("] + by_chance(chance, depth - 1) + [")"]
    if kind == 7:
        return [chance.choice("rq"), "["] + by_chance(chance, depth - 1) + ["]"]
    return [chance.choice(["a", "b", "c", "d", "0", "1", "03", "4294967295"])]


if __name__ == "__main__":
    unittest.main()
