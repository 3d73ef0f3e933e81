"""What expressions are worth, how tight their operators bind, and in which order they are worked out."""

import itertools
import unittest

from tests.asking import LARGEST, by_zero, marked, outside, ran, ran_back

HALF = 2147483648

# How tight each operator binds.
LEVELS = [["|"], ["^"], ["&"], ["=", "!=", "<=", "<"], ["+", "-"], ["*", "/", "%"]]
OPERATORS = [sign for level in LEVELS for sign in level]


def level_of(sign):
    return [sign in level for level in LEVELS].index(True)


def worth(expression, a=0, b=0, c=0):
    """What the expression is worth; None if it can't be worked out."""
    answer = ran("int a, b, c, x; main { x += %s; }" % expression, [a, b, c, 0])
    return answer[-1] if answer[0] == 1 else None


class Operators(unittest.TestCase):
    def assert_worth(self, sign, rows):
        for a, b, answer in rows:
            with self.subTest("%d %s %d" % (a, sign, b)):
                self.assertEqual(worth("a %s b" % sign, a, b), answer)
                self.assertEqual(worth("%d%s%d" % (a, sign, b)), answer)

    def test_or(self):
        self.assert_worth("|", [
            (0, 0, 0), (12, 10, 14), (1, 2, 3), (HALF, 1, HALF + 1), (LARGEST, 5, LARGEST), (0, LARGEST, LARGEST),
        ])

    def test_exclusive_or(self):
        self.assert_worth("^", [(0, 0, 0), (12, 10, 6), (LARGEST, LARGEST, 0), (LARGEST, 0, LARGEST), (HALF, 1, HALF + 1)])

    def test_and(self):
        self.assert_worth("&", [(0, 0, 0), (12, 10, 8), (1, 2, 0), (LARGEST, HALF, HALF), (LARGEST, LARGEST, LARGEST)])

    def test_equal(self):
        self.assert_worth("=", [(0, 0, 1), (1, 0, 0), (0, 1, 0), (LARGEST, LARGEST, 1), (LARGEST, HALF, 0), (7, 7, 1)])

    def test_unequal(self):
        self.assert_worth("!=", [(0, 0, 0), (1, 0, 1), (0, 1, 1), (LARGEST, LARGEST, 0), (LARGEST, HALF, 1), (7, 7, 0)])

    def test_at_most(self):
        self.assert_worth("<=", [
            (0, 0, 1), (1, 0, 0), (0, 1, 1), (LARGEST, 0, 0), (0, LARGEST, 1), (HALF, HALF - 1, 0), (HALF, HALF, 1),
        ])

    def test_less(self):
        self.assert_worth("<", [
            (0, 0, 0), (1, 0, 0), (0, 1, 1), (LARGEST, 0, 0), (0, LARGEST, 1), (HALF, HALF - 1, 0), (HALF - 1, HALF, 1),
        ])

    def test_plus(self):
        self.assert_worth("+", [(0, 0, 0), (2, 3, 5), (LARGEST, 1, 0), (LARGEST, LARGEST, LARGEST - 1), (HALF, HALF, 0)])

    def test_minus(self):
        self.assert_worth("-", [(0, 0, 0), (5, 3, 2), (3, 5, LARGEST - 1), (0, 1, LARGEST), (0, LARGEST, 1), (0, HALF, HALF)])

    def test_times(self):
        self.assert_worth("*", [
            (0, 5, 0), (6, 7, 42), (LARGEST, LARGEST, 1), (65536, 65536, 0), (65537, 65537, 131073), (HALF, 3, HALF),
        ])

    def test_divided(self):
        self.assert_worth("/", [
            (0, 5, 0), (7, 2, 3), (6, 7, 0), (LARGEST, 1, LARGEST), (LARGEST, 2, HALF - 1), (LARGEST, LARGEST, 1),
            (LARGEST - 1, LARGEST, 0), (1, LARGEST, 0),
        ])

    def test_rest(self):
        self.assert_worth("%", [
            (0, 5, 0), (7, 2, 1), (6, 7, 6), (LARGEST, 1, 0), (LARGEST, 10, 5), (LARGEST, LARGEST, 0),
            (LARGEST - 1, LARGEST, LARGEST - 1), (1, LARGEST, 1),
        ])

    def test_not(self):
        for a, answer in [(0, 1), (1, 0), (2, 0), (HALF, 0), (LARGEST, 0)]:
            self.assertEqual(worth("!a", a), answer)
            self.assertEqual(worth("!%d" % a), answer)
            self.assertEqual(worth("!!a", a), 1 - answer)
            self.assertEqual(worth("!!!a", a), answer)

    def test_results_within_are_modulo_2_to_the_32_too(self):
        self.assertEqual(worth("(a + 1) / 2", LARGEST), 0)
        self.assertEqual(worth("(a * a) / 2", 65536), 0)
        self.assertEqual(worth("(a - 1) / 2", 0), HALF - 1)
        self.assertEqual(worth("a - 1 < 5", 0), 0)
        self.assertEqual(worth("!(a + 1)", LARGEST), 1)

    def test_numbers(self):
        for number in ["0", "7", "007", "4294967295", "2147483648", "00000000000000000001"]:
            self.assertEqual(worth(number), int(number))

    def test_by_zero(self):
        for sign in ["/", "%"]:
            for expression in ["1 @%s 0", "a @%s b", "0 @%s 0", "1 + a @%s (b * 2)", "!(a @%s !1)", "1 @%s 0 %s 0",
                               "4294967295 @%s (4294967295 + 1)", "(1 @%s 0) %s (1 %s 0)"]:
                filled = expression.replace("%s", sign)
                text, place = marked("int a, b, x; main { x += %s; }" % filled)
                self.assertEqual(ran(text, [5, 0, 0]), by_zero(place))
                self.assertEqual(ran_back(text, [5, 0, 0]), by_zero(place))


class Variables(unittest.TestCase):
    def test_words_of_a_row(self):
        text, place = marked("int i, r[3], x; main { x += @r[%s]; }")
        for index, answer in [("0", 10), ("1", 20), ("2", 30), ("i", 20), ("i + 1", 30), ("!i", 10), ("r[0] - 9", 20)]:
            self.assertEqual(ran(text % index, [1, 10, 20, 30, 0]), [1, 1, 10, 20, 30, answer])
        for index in ["3", "4", "i + 2", "i - 2", "4294967295", "r[0]"]:
            self.assertEqual(ran(text % index, [1, 10, 20, 30, 0]), outside(place))

    def test_the_row_within(self):
        text, place = marked("int r[3], s[2], x; main { x += r[@s[2]]; }")
        self.assertEqual(ran(text, [0] * 6), outside(place))
        text, place = marked("int r[3], s[2], x; main { x += @r[s[1]]; }")
        self.assertEqual(ran(text, [0, 0, 0, 0, 3, 0]), outside(place))
        self.assertEqual(ran(text, [0, 5, 0, 0, 1, 0]), [1, 0, 5, 0, 0, 1, 5])


class Binding(unittest.TestCase):
    VALUES = [0, 1, 2, 3, 5, 8, LARGEST]

    def told_apart(self, left, right):
        """Operands for which the two groupings differ; None if there are none."""
        for operands in itertools.product(self.VALUES, repeat=3):
            if worth(left, *operands) != worth(right, *operands):
                return operands
        return None

    def test_each_operator_beside_each_other(self):
        alike = []
        for one, other in itertools.product(OPERATORS, repeat=2):
            left, right = "(a %s b) %s c" % (one, other), "a %s (b %s c)" % (one, other)
            operands = self.told_apart(left, right)
            if operands is None:
                alike.append(one + other)
                continue
            meant = right if level_of(other) > level_of(one) else left
            with self.subTest("a %s b %s c" % (one, other)):
                self.assertEqual(worth("a %s b %s c" % (one, other), *operands), worth(meant, *operands))
        self.assertEqual(alike, ["||", "^^", "&&", "++", "+-", "**"])

    def test_not_binds_tightest(self):
        for sign in OPERATORS:
            operands = self.told_apart("(!a) %s b" % sign, "!(a %s b)" % sign)
            self.assertIsNotNone(operands)
            self.assertEqual(worth("!a %s b" % sign, *operands), worth("(!a) %s b" % sign, *operands))
            self.assertEqual(worth("b %s !a" % sign, 2, 3), worth("b %s (!a)" % sign, 2, 3))

    def test_not_of_a_word_of_a_row(self):
        self.assertEqual(ran("int r[2], x; main { x += !r[1]; }", [5, 0, 0]), [1, 5, 0, 1])
        self.assertEqual(ran("int r[2], x; main { x += r[!r[1]]; }", [5, 7, 0]), [1, 5, 7, 5])

    def test_all_in_one(self):
        self.assertEqual(worth("1 | 2 ^ 4 & 0 = 2 + 3 * 2"), 3)
        self.assertEqual(worth("16 | 7 ^ 5 & 1 + 2 * 3"), 18)
        self.assertEqual(worth("2 * 3 + 1 & 5 ^ 7 | 16"), 18)
        self.assertEqual(worth("100 - 7 - 3 * 2 * 2 - 1"), 80)
        self.assertEqual(worth("100 / 7 / 3 % 3 * 5"), 5)
        self.assertEqual(worth("3 < 2 < 1"), 1)
        self.assertEqual(worth("3 <= 3 = 2 != 5"), 1)


class Order(unittest.TestCase):
    """Where several parts can't be worked out, the refusal tells which was come to first."""

    def assert_refused(self, statement, refusal):
        text, place = marked("int z, x, r[1], s[1]; main { %s }" % statement)
        with self.subTest(statement):
            self.assertEqual(ran(text, [0] * 4), refusal(place))

    def test_operands_from_left_to_right(self):
        for sign in OPERATORS:
            self.assert_refused("x += @r[1] %s s[1];" % sign, outside)
            self.assert_refused("x += (1 @/ z) %s s[1];" % sign, by_zero)
            self.assert_refused("x += @r[1] %s (1 / z);" % sign, outside)
            self.assert_refused("x += (1 @%% z) %s (1 / z);" % sign, by_zero)

    def test_no_operand_is_left_out(self):
        self.assert_refused("x += 0 & @r[1];", outside)
        self.assert_refused("x += 4294967295 | @r[1];", outside)
        self.assert_refused("x += 0 * (1 @/ z);", by_zero)
        self.assert_refused("if 1 | 1 @/ 0 { } else { } fi 1;", by_zero)

    def test_operands_ahead_of_their_operator(self):
        self.assert_refused("x += 1 / (0 * @r[1]);", outside)
        self.assert_refused("x += 1 @/ z * 0;", by_zero)
        self.assert_refused("x += 1 / (2 @% z);", by_zero)
        self.assert_refused("x += 1 @/ z / z;", by_zero)
        self.assert_refused("x += @r[1] / z;", outside)

    def test_a_tighter_operator_ahead_of_a_looser_one_on_its_left(self):
        self.assert_refused("x += 1 / 1 + 1 @/ z + s[1];", by_zero)
        self.assert_refused("x += 1 + @s[1] * (1 / z);", outside)

    def test_what_stands_within_ahead_of_the_row(self):
        self.assert_refused("x += r[1 @/ z];", by_zero)
        self.assert_refused("x += r[1 + @s[1]];", outside)
        self.assert_refused("r[@s[1]] += 1;", outside)

    def test_the_variable_that_is_changed_ahead_of_e(self):
        for sign in ["+=", "-=", "^="]:
            self.assert_refused("@r[1] %s s[1];" % sign, outside)
            self.assert_refused("@r[1] %s 1 / z;" % sign, outside)
            self.assert_refused("r[1 @/ z] %s s[1];" % sign, by_zero)
            self.assert_refused("r[0] %s @s[1];" % sign, outside)

    def test_the_left_variable_ahead_of_the_right(self):
        self.assert_refused("@r[1] <=> s[1];", outside)
        self.assert_refused("@r[1] <=> s[1 / z];", outside)
        self.assert_refused("r[1 @/ z] <=> s[1];", by_zero)
        self.assert_refused("r[1 @% z] <=> r[1 / z];", by_zero)


if __name__ == "__main__":
    unittest.main()
