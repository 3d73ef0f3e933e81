"""What run refuses ahead of running, and which refusal is answered where there are several."""

import unittest

from tests.asking import (
    MOST_STEPS, OUT_OF_RANGE, OVER_LIMIT, as_bytes, broken, by_zero, misplaced, ran, ran_back,
)
from tests.test_order import LONG_NUMBER, LONG_WORD
from undorundesk.desk import check, run

TEXT = "int x, r[2]; main { x += 1; }"

# Texts that are refused, whatever steps and words are handed in.
FAULTY = [
    ("", misplaced(0)), ("main { ; }", misplaced(7)), ("main { }}", misplaced(8)), ("int x; main {", misplaced(13)),
    ("main { " + LONG_WORD + " }", OVER_LIMIT), ("int x; main { x += " + LONG_NUMBER + "; }", OVER_LIMIT),
    ("int x; main { x += " + "(" * 32 + "1" + ")" * 32 + "; }", OVER_LIMIT),
    ("main { x += 1; }", broken(7)), ("int x, x; main { }", broken(7)), ("main { call f(); }", broken(12)),
    ("int r[4097]; main { }", OVER_LIMIT),
    ("int " + ",".join("g%d" % k for k in range(257)) + "; main { }", OVER_LIMIT),
    ("".join("proc f%d() { } " % k for k in range(257)) + "main { }", OVER_LIMIT),
    ("proc f(" + ",".join("p%d" % k for k in range(17)) + ") { } main { }", OVER_LIMIT),
]


class Range(unittest.TestCase):
    def test_steps(self):
        for steps in [0, MOST_STEPS + 1, 2 * MOST_STEPS, 2147483647]:
            self.assertEqual(ran(TEXT, [0, 0, 0], steps), OUT_OF_RANGE)
            self.assertEqual(ran_back(TEXT, [0, 0, 0], steps), OUT_OF_RANGE)
            self.assertEqual(ran("main { }", [], steps), OUT_OF_RANGE)
        for steps in [1, 2, MOST_STEPS - 1, MOST_STEPS]:
            self.assertEqual(ran(TEXT, [5, 6, 7], steps), [1, 6, 6, 7])
            self.assertEqual(ran_back(TEXT, [5, 6, 7], steps), [1, 4, 6, 7])

    def test_bytes_of_the_text(self):
        for length, answer in [(65536, [1, 6, 6, 7]), (65537, OUT_OF_RANGE), (66000, OUT_OF_RANGE)]:
            self.assertEqual(ran(TEXT.ljust(length), [5, 6, 7]), answer)
        self.assertEqual(ran_back(TEXT.ljust(65537), [5, 6, 7]), OUT_OF_RANGE)

    def test_number_of_words(self):
        for count in [0, 1, 2, 4, 5, 4200]:
            self.assertEqual(ran(TEXT, [1] * count), OUT_OF_RANGE)
            self.assertEqual(ran_back(TEXT, [1] * count), OUT_OF_RANGE)
        self.assertEqual(ran("main { }", [1]), OUT_OF_RANGE)
        self.assertEqual(ran("int x[0]; main { }", [1]), OUT_OF_RANGE)
        self.assertEqual(ran("int x[0]; main { }", []), [0])
        self.assertEqual(ran("main { }", []), [0])
        self.assertEqual(ran("int x[4096]; main { }", [7] * 4095), OUT_OF_RANGE)
        self.assertEqual(ran("int x[4096]; main { }", [7] * 4097), OUT_OF_RANGE)
        self.assertEqual(ran("int x[4096]; main { }", [7] * 4096), [0] + [7] * 4096)


class Order(unittest.TestCase):
    def test_refusals_of_the_text(self):
        for text, answer in FAULTY:
            with self.subTest(text[:40]):
                self.assertEqual(check(as_bytes(text)), answer)
                for back in [0, 1]:
                    for words in [[], [0], [0, 0], [0] * 4097]:
                        self.assertEqual(run(1, back, as_bytes(text), words), answer)

    def test_steps_and_bytes_come_ahead_of_the_text(self):
        for text, answer in FAULTY:
            with self.subTest(text[:40]):
                for back in [0, 1]:
                    self.assertEqual(run(0, back, as_bytes(text), [0]), OUT_OF_RANGE)
                    self.assertEqual(run(MOST_STEPS + 1, back, as_bytes(text), []), OUT_OF_RANGE)
                    self.assertEqual(run(1, back, as_bytes(text.ljust(65537)), []), OUT_OF_RANGE)

    def test_the_number_of_words_comes_ahead_of_running(self):
        self.assertEqual(ran("int x; main { x += 1 / 0; }", [0]), by_zero(21))
        self.assertEqual(ran("int x; main { x += 1 / 0; }", []), OUT_OF_RANGE)
        self.assertEqual(ran("int x; main { x += 1; x += 1; }", [0, 0], 1), OUT_OF_RANGE)

    def test_what_is_not_come_to_is_not_refused(self):
        text = "int x, r[1]; proc f() { if 1 / 0 { } else { } fi 1; } main { if 0 { x += r[1] / 0; } else { } fi 0; }"
        self.assertEqual(ran(text, [4, 5]), [1, 4, 5])
        self.assertEqual(ran_back(text, [4, 5]), [1, 4, 5])


if __name__ == "__main__":
    unittest.main()
