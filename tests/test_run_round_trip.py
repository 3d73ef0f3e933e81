"""Run on and then back, from the words it ended with, a text gives the words it began with."""

import random
import unittest

from tests.asking import LARGEST, BothWays, asked, ran, ran_back

DIVISION = """int number, divisor, times;
main { from times = 0 do { } loop { number -= divisor; times += 1; } until number < divisor; }
"""

TURN_ROW = """int r[%d];
proc turn_row(a[], last) {
    local i = 0 {
        from i = 0 do { } loop { a[i] <=> a[last - i]; i += 1; } until (last + 1) / 2 <= i;
    } delocal (last + 1) / 2;
}
main { local last = %d { call turn_row(r, last); } delocal %d; }
"""

SUMS = """int r[8];
proc sums(a[]) {
    local i = 1 { from i = 1 do { local old = a[i - 1] { a[i] += old; } delocal a[i - 1]; i += 1; } loop { } until i = 8; }
    delocal 8;
}
main { call sums(r); uncall sums(r); call sums(r); }
"""

MIX = """int a, b, c, r[4];
proc stir(x, y, k[]) { x += y * 2654435761 ^ k[y %% 4]; y ^= x / 65536; x <=> y; k[0] += x | 1; k[3] <=> k[x & 3]; }
main {
    local i = 0 {
        from i = 0 do { call stir(a, b, r); uncall stir(b, c, r); if i & 1 { c -= a; } else { c ^= !a; } fi i & 1; }
        loop { i += 1; } until i = %d;
    } delocal %d;
}
"""


class Ordinary(BothWays):
    def test_division(self):
        self.assert_both(DIVISION, [47, 5, 0], 2 + 9 + 18, [2, 5, 9])
        self.assert_both(DIVISION, [4, 5, 0], 2, [4, 5, 0])
        self.assert_both(DIVISION, [LARGEST, 65536, 0], 2 + 3 * 65535, [65535, 65536, 65535])

    def test_a_row_turned_about(self):
        for count in [3, 5, 8]:
            row = [k * k + 1 for k in range(count)]
            on = ran(TURN_ROW % (count, count - 1, count - 1), row)
            self.assertEqual(on[1:], row[::-1])
            self.assertEqual(ran_back(TURN_ROW % (count, count - 1, count - 1), on[1:]), [on[0]] + row)

    def test_running_sums(self):
        self.assert_both(SUMS, [1] * 8, 3 * (3 + 7 * 4), [1, 2, 3, 4, 5, 6, 7, 8])
        self.assert_both(SUMS, [LARGEST, 2] + [0] * 6, 3 * (3 + 7 * 4), [LARGEST] + [1] * 7)

    def test_words_stirred_for_long(self):
        for rounds in [1, 2, 100, 1000]:
            for words in [[0] * 7, [1, 2, 3, 4, 5, 6, 7], [LARGEST] * 7, [3, 0, LARGEST, 9, 77, 2147483648, 12345]]:
                text = MIX % (rounds, rounds)
                on = ran(text, words)
                self.assertNotEqual(on[1:], words)
                self.assertEqual(ran_back(text, on[1:]), [on[0]] + words)
                back = ran_back(text, words)
                self.assertEqual(ran(text, back[1:]), [back[0]] + words)


class Writer:
    """Writes texts by chance, such that all can be run to their end.

    A statement changes nothing that the conditions around it ask for.
    """

    def __init__(self, seed):
        self.chance = random.Random(seed)
        self.locals_written = 0

    def pick(self, *ones):
        return self.chance.choice(ones)

    def expression(self, names, depth):
        kind = self.chance.randrange(8 if depth > 0 else 3)
        if kind == 0 or not names:
            return str(self.pick(0, 1, 2, 3, 7, LARGEST, self.chance.randrange(LARGEST)))
        if kind < 3:
            return self.pick(*names)
        if kind == 3:
            return "!(%s)" % self.expression(names, depth - 1)
        if kind == 4:
            return "(%s) %s %d" % (self.expression(names, depth - 1), self.pick("/", "%"), self.chance.randrange(1, 9))
        sign = self.pick("|", "^", "&", "=", "!=", "<=", "<", "+", "-", "*")
        return "%s %s %s" % (self.expression(names, depth - 1), sign, self.expression(names, depth - 1))

    def variable(self, name, others):
        return "r[(%s) %% 3]" % self.expression(others, 1) if name == "r" else name

    def change(self, free, names):
        name = self.pick(*free)
        others = [one for one in names if one not in (name, "r")]
        sign = self.pick("+=", "-=", "^=")
        return "%s %s %s;" % (self.variable(name, others), sign, self.expression(others, 3))

    def swap(self, free, names):
        left, right = self.pick(*free), self.pick(*free)
        others = [one for one in names if one not in (left, right, "r")]
        return "%s <=> %s;" % (self.variable(left, others), self.variable(right, others))

    def statement(self, free, names, depth):
        if len(free) < 2 or depth == 0:
            return self.change(free, names) if free else "skip;"
        kind = self.chance.randrange(7)
        asked_for = self.pick(*free)
        rest = [one for one in free if one != asked_for]
        if kind < 2:
            return self.change(free, names)
        if kind == 2:
            return self.swap(free, names)
        if kind == 3 and asked_for != "r":
            condition = "%s & %d" % (asked_for, self.pick(1, 2, 4))
            blocks = (self.block(rest, names, depth - 1), self.block(rest, names, depth - 1))
            return "if %s %s else %s fi %s;" % ((condition,) + blocks + (condition,))
        if kind == 4:
            return self.counting(free, names, depth)
        if kind == 5 and asked_for != "r":
            self.locals_written += 1
            name = "l%d" % self.locals_written
            return "local %s = %s %s delocal %s;" % (name, asked_for, self.block(rest, names + [name], depth - 1), asked_for)
        handed = self.chance.sample([one for one in free if one != "r"] * 2, 2) if len(free) > 2 else []
        if len(set(handed)) == 2:
            return "%s stir(%s, %s);" % (self.pick("call", "uncall"), handed[0], handed[1])
        return "skip;"

    def counting(self, free, names, depth):
        self.locals_written += 1
        name, times = "l%d" % self.locals_written, self.chance.randrange(4)
        first, second = [self.block(free, names + [name], depth - 1) for _ in range(2)]
        second = "{ %s += 1; if 1 %s else { } fi 1; }" % (name, second)
        loop = "from %s = 0 do %s loop %s until %s = %d;" % (name, first, second, name, times)
        return "local %s = 0 { %s } delocal %d;" % (name, loop, times)

    def block(self, free, names, depth):
        return "{ %s }" % " ".join(self.statement(free, names, depth) for _ in range(self.chance.randrange(4)))

    def text(self):
        names = ["a", "b", "c", "d", "r"]
        inner = self.block(["x", "y"], ["x", "y"], 2)
        main = self.block(names, [one for one in names if one != "r"], 3)
        return "int a, b, c, d, r[3]; proc stir(x, y) %s main %s" % (inner, main)


class ByChance(unittest.TestCase):
    def test_texts_by_chance(self):
        taken = 0
        for seed in range(600):
            writer = Writer(seed)
            text = writer.text()
            words = [writer.pick(0, 1, 2, LARGEST, writer.chance.randrange(LARGEST)) for _ in range(7)]
            with self.subTest(text=text, words=words):
                self.assertEqual(asked(text), [7])
                on = ran(text, words)
                self.assertGreaterEqual(on[0], 0)
                self.assertEqual(ran_back(text, on[1:]), [on[0]] + words)
                back = ran_back(text, words)
                self.assertGreaterEqual(back[0], 0)
                self.assertEqual(ran(text, back[1:]), [back[0]] + words)
                taken += on[0]
        self.assertGreater(taken, 6000)


if __name__ == "__main__":
    unittest.main()
