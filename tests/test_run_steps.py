"""How many steps are counted, and what is answered where they don't suffice."""

import unittest

from tests.asking import (
    MOST_STEPS, STEPS_OVER, by_zero, outside, ran, ran_back, unfulfilled,
)

GLOBALS = "int x, y, r[2]; "
WORDS = [0, 1, 0, 0]

# Statements, and how many steps they take from those words, on as well as back.
COUNTED = [
    ("skip;", 1), ("skip; skip;", 2), ("x += 1;", 1), ("x -= y + 2 * (3 + y);", 1), ("x ^= r[r[y]] | r[1];", 1),
    ("r[1] += 1;", 1), ("x <=> y;", 1), ("r[0] <=> r[1];", 1),
    ("if y { } else { } fi y;", 1), ("if y { skip; } else { } fi y;", 2), ("if y { } else { skip; } fi y;", 1),
    ("if x { skip; } else { skip; skip; } fi x;", 3), ("if y { if y { skip; } else { } fi y; } else { } fi y;", 3),
    ("from y do { } loop { } until y;", 2), ("from y do { skip; } loop { skip; skip; skip; } until y;", 3),
    ("local i = 0 { from i = 0 do { i += 1; } loop { } until i = 4; } delocal 4;", 2 + 8),
    ("local i = 0 { from i = 0 do { } loop { i += 1; } until i = 4; } delocal 4;", 2 + 9),
    ("local i = 0 { from i = 0 do { skip; } loop { i += 1; skip; } until i = 4; } delocal 4;", 2 + 5 * 2 + 4 * 2),
    ("local a = y { } delocal y;", 1), ("local a = y { skip; } delocal y;", 2),
    ("local a = y { local b = a { skip; } delocal a; } delocal y;", 3),
    ("call empty();", 1), ("uncall empty();", 1), ("call two(x);", 3), ("uncall two(x);", 3), ("call four(x);", 5),
    ("uncall four(x);", 5), ("call four(x); uncall four(x);", 10),
]
PROCEDURES = """proc empty() { }
proc two(a) { a += 1; a ^= 3; }
proc four(a) { call two(a); skip; }
"""


def text_of(statements):
    return GLOBALS + PROCEDURES + "main { " + statements + " }"


class Counted(unittest.TestCase):
    def test_the_last_that_is_enough_and_the_first_that_is_not(self):
        for statements, steps in COUNTED:
            text = text_of(statements)
            for way in [ran, ran_back]:
                with self.subTest(text=statements, way=way.__name__):
                    whole = way(text, WORDS)
                    self.assertEqual(whole[0], steps)
                    self.assertEqual(way(text, WORDS, steps), whole)
                    self.assertEqual(way(text, WORDS, steps + 1), whole)
                    for fewer in range(1, steps):
                        self.assertEqual(way(text, WORDS, fewer), STEPS_OVER)

    def test_none(self):
        self.assertEqual(ran("main { }", [], 1), [0])
        self.assertEqual(ran_back("main { }", [], 1), [0])

    def test_as_many_as_there_can_be(self):
        text = "int x; main { skip; from x = 0 do { x += 1; } loop { } until x = %d; }"
        exact = text % 499999
        self.assertEqual(ran(exact, [0], MOST_STEPS), [MOST_STEPS, 499999])
        self.assertEqual(ran_back(exact, [499999], MOST_STEPS), [MOST_STEPS, 0])
        self.assertEqual(ran(exact, [0], MOST_STEPS - 1), STEPS_OVER)
        self.assertEqual(ran(text % 500000, [0], MOST_STEPS), STEPS_OVER)
        self.assertEqual(ran_back(text % 500000, [500000], MOST_STEPS), STEPS_OVER)

    def test_what_never_ends(self):
        for text in ["int x; main { from x = 0 do { x += 1; } loop { } until x = 0; }",
                     "int x; main { from !x do { x += 2; } loop { } until x & 1; }",
                     "int x; proc f(a) { call f(a); } main { call f(x); }"]:
            self.assertEqual(ran(text, [0], 5000), STEPS_OVER)


class BesideOtherRefusals(unittest.TestCase):
    """Whichever is come to first is answered."""

    def assert_needs(self, text, words, steps, refusal, way=ran):
        """The refusal is come to in that many steps."""
        with self.subTest(text):
            self.assertEqual(way(text, words, steps), refusal)
            self.assertEqual(way(text, words, MOST_STEPS), refusal)
            if steps > 1:
                self.assertEqual(way(text, words, steps - 1), STEPS_OVER)

    def test_a_statement_counts_ahead_of_what_it_does(self):
        text = "int x, r[1]; main { skip; x += 1 / 0; skip; }"
        self.assert_needs(text, [0, 0], 2, by_zero(text.index("/")))
        self.assert_needs(text, [0, 0], 2, by_zero(text.index("/")), ran_back)
        text = "int x, r[1]; main { skip; r[1] <=> x; }"
        self.assert_needs(text, [0, 0], 2, outside(text.index("r[1] <")))
        text = "int x; main { skip; if 1 / x { } else { } fi 1; }"
        self.assert_needs(text, [0], 2, by_zero(text.index("/")))
        text = "int x; main { skip; local a = 1 / x { } delocal 1; }"
        self.assert_needs(text, [0], 2, by_zero(text.index("/")))

    def test_what_must_hold_in_the_end_takes_no_step(self):
        text = "int x; main { if 1 { skip; } else { } fi x; }"
        self.assert_needs(text, [0], 2, unfulfilled(text.index("fi")))
        text = "int x; main { if x { } else { skip; } fi 1; }"
        self.assert_needs(text, [0], 2, unfulfilled(text.index("fi")))
        text = "int x; main { if x { skip; } else { } fi 1; }"
        self.assert_needs(text, [0], 2, unfulfilled(text.index("if")), ran_back)
        text = "int x; main { local a = 1 { skip; } delocal x; }"
        self.assert_needs(text, [0], 2, unfulfilled(text.index("delocal")))

    def test_what_must_hold_at_first_of_a_loop_comes_ahead_of_its_round(self):
        text = "int x; main { skip; from x do { } loop { } until 1; }"
        self.assert_needs(text, [0], 2, unfulfilled(text.index("from")))
        text = "int x; main { from 1 do { } loop { } until x; skip; }"
        self.assert_needs(text, [0], 2, unfulfilled(text.index("until")), ran_back)

    def test_a_round_counts_ahead_of_what_it_does(self):
        text = "int x; main { from 1 do { } loop { } until 1 / x; }"
        self.assert_needs(text, [0], 2, by_zero(text.index("/")))
        text = "int x; main { from 1 do { x += 1 / 0; } loop { } until 1; }"
        self.assert_needs(text, [0], 3, by_zero(text.index("/")))
        self.assert_needs(text, [0], 3, by_zero(text.index("/")), ran_back)
        text = "int x, y; main { from x = 0 do { y += 1 / (1 - x); x += 1; } loop { } until 0; }"
        self.assert_needs(text, [0, 0], 6, by_zero(text.index("/")))

    def test_what_must_hold_later_comes_ahead_of_the_next_round(self):
        text = "int x; main { from 1 do { } loop { skip; } until x; }"
        self.assert_needs(text, [0], 3, unfulfilled(text.index("from")))
        text = "int x; main { from x = 0 do { x += 1; } loop { } until 0 / (2 - x); }"
        self.assert_needs(text, [0], 5, by_zero(text.index("/")))

    def test_a_call_counts_ahead_of_its_block(self):
        text = "int x; proc f(a) { a += 1 / 0; } main { call f(x); }"
        self.assert_needs(text, [0], 2, by_zero(text.index("/")))


if __name__ == "__main__":
    unittest.main()
