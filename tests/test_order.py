"""Which refusal is answered where a text has several faults."""

import unittest

from tests.asking import OUT_OF_RANGE, OVER_LIMIT, asked, broken, misplaced

LONG_WORD = "w" * 32
LONG_NUMBER = "4294967296"


class Order(unittest.TestCase):
    def test_too_many_bytes_come_ahead_of_all(self):
        for text in ["}", LONG_WORD, LONG_NUMBER, "main { q += 1; }", "int r[4097]; main { }", "main { }", ""]:
            with self.subTest(text):
                self.assertEqual(asked(text + " " * (65537 - len(text))), OUT_OF_RANGE)

    def test_the_first_token_that_can_not_stand(self):
        self.assertEqual(asked("main { ; } }"), misplaced(7))
        self.assertEqual(asked("int x main { ; }"), misplaced(6))

    def test_a_wrong_token_or_a_limit_whichever_is_first(self):
        for long in [LONG_WORD, LONG_NUMBER]:
            self.assertEqual(asked("main { ; " + long + " }"), misplaced(7))
            self.assertEqual(asked("main { " + long + " ; }"), OVER_LIMIT)
            self.assertEqual(asked("main { } " + long), OVER_LIMIT)
            self.assertEqual(asked("main { @ " + long), misplaced(7))
            self.assertEqual(asked(long + " @"), OVER_LIMIT)
        deep = "int x; main { x += " + "(" * 32
        self.assertEqual(asked(deep + ";"), OVER_LIMIT)
        self.assertEqual(asked("int x; main { ; x += " + "(" * 32), misplaced(14))
        self.assertEqual(asked("int x; main { x += " + "(" * 31 + ";("), misplaced(50))
        self.assertEqual(asked("int x; main { x += " + "(" * 31 + LONG_WORD), OVER_LIMIT)

    def test_a_limit_of_the_text_is_told_although_a_rule_is_broken_ahead_of_it(self):
        self.assertEqual(asked("main { q += 1; " + LONG_WORD + " += 1; }"), OVER_LIMIT)
        self.assertEqual(asked("main { q += " + LONG_NUMBER + "; }"), OVER_LIMIT)
        self.assertEqual(asked("main { q += " + "(" * 32 + "1" + ")" * 32 + "; }"), OVER_LIMIT)

    def test_a_wrong_token_is_told_although_a_rule_is_broken_ahead_of_it(self):
        self.assertEqual(asked("int x, x; main { q += 1; } ;"), misplaced(27))
        self.assertEqual(asked("int x, x; main { q += 1;"), misplaced(24))

    def test_a_rule_comes_ahead_of_the_limits_of_a_whole_text(self):
        globals_ = ",".join("g%d" % k for k in range(257))
        procedures = "".join("proc f%d() { } " % k for k in range(257))
        parameters = ",".join("p%d" % k for k in range(17))
        for ahead in ["int r[4097]; ", "int " + globals_ + "; ", procedures, "proc f(" + parameters + ") { } "]:
            with self.subTest(ahead[:20]):
                self.assertEqual(asked(ahead + "main { }"), OVER_LIMIT)
                self.assertEqual(asked(ahead + "main { q += 1; }"), broken(len(ahead) + 7))
                self.assertEqual(asked(ahead + "main { q += 1; "), misplaced(len(ahead) + 15))

    def test_a_text_over_the_limits_in_which_a_rule_asks_for_all_of_it(self):
        parameters = ",".join("p%d" % k for k in range(17))
        text = "proc f(" + parameters + ") { p16 += p0; call f(" + parameters + "); } main { }"
        self.assertEqual(asked(text), OVER_LIMIT)
        text = "int r[4097]; main { r[4096] += 1; }"
        self.assertEqual(asked(text), OVER_LIMIT)


if __name__ == "__main__":
    unittest.main()
