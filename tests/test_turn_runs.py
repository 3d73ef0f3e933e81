"""A text turned about runs on as the text itself runs back; turned about twice, it is the text told so."""

import unittest

from tests.asking import (
    LARGEST, STEPS_OVER, about, asked, by_zero, outside, ran, ran_back, unfulfilled,
)
from tests.retelling import told_about, told_so
from tests.test_ordinary import EVERYTHING
from tests.test_run_round_trip import DIVISION, MIX, SUMS, TURN_ROW, Writer
from tests.test_run_steps import COUNTED, WORDS, text_of

WRITTEN = [
    ("main { }", []), ("int x, r[3]; main { }", [1, 2, 3, 4]),
    ("int x; main { x += 1; x ^= 7; x -= 5; }", [3]),
    (DIVISION, [2, 5, 9]), (DIVISION, [4, 5, 0]), (DIVISION, [47, 5, 0]), (DIVISION, [47, 0, 0]),
    (TURN_ROW % (5, 4, 4), [9, 8, 7, 6, 5]), (TURN_ROW % (8, 7, 7), list(range(8))),
    (SUMS, [1, 2, 3, 4, 5, 6, 7, 8]), (SUMS, [LARGEST, 2] + [0] * 6),
    (MIX % (1, 1), [0] * 7), (MIX % (50, 50), [3, 0, LARGEST, 9, 77, 2147483648, 12345]),
    (EVERYTHING, list(range(13))), (EVERYTHING, [0] * 13), (EVERYTHING, [LARGEST] * 13),
    ("int n; proc f(n) { if n = 0 { } else { n -= 1; call f(n); n += 1; } fi n = 0; } main { uncall f(n); }", [3000]),
    ("int a, b; proc f(x, y) { x += y; uncall g(y, x); } proc g(x, y) { x += 3; y ^= x; } main { call f(a, b); }", [5, 6]),
]


def kind_of(answer):
    """An answer without the place that a refusal tells, which is another in another text."""
    return -(-answer[0] // 1000000) if answer[0] <= -1000000 else answer


class Runs(unittest.TestCase):
    def assert_runs(self, text, words):
        """Gives back what running the text back answers."""
        other = about(text)
        self.assertEqual(asked(other), asked(text))
        for way, other_way in [(ran_back, ran), (ran, ran_back)]:
            answer = way(text, words)
            self.assertEqual(kind_of(other_way(other, words)), kind_of(answer))
            for steps in [1, 2, 5, answer[0] - 1, answer[0]]:
                if steps > 0:
                    self.assertEqual(kind_of(other_way(other, words, steps)), kind_of(way(text, words, steps)))
        return ran_back(text, words)

    def test_written_texts(self):
        for text, words in WRITTEN:
            with self.subTest(text=text, words=words):
                self.assert_runs(text, words)

    def test_each_statement(self):
        for statements, steps in COUNTED:
            with self.subTest(statements):
                answer = self.assert_runs(text_of(statements), WORDS)
                self.assertEqual(answer[0], steps)

    def test_from_the_words_at_the_end_to_those_at_the_beginning(self):
        self.assertEqual(ran(about(DIVISION), [2, 5, 9]), [29, 47, 5, 0])
        self.assertEqual(ran_back(about(DIVISION), [47, 5, 0]), [29, 2, 5, 9])
        self.assertEqual(ran(about(SUMS), [1, 2, 3, 4, 5, 6, 7, 8])[1:], [1] * 8)

    def test_texts_by_chance(self):
        taken = 0
        for seed in range(400):
            writer = Writer(seed)
            text = writer.text()
            words = [writer.pick(0, 1, 2, LARGEST, writer.chance.randrange(LARGEST)) for _ in range(7)]
            with self.subTest(text=text, words=words):
                taken += self.assert_runs(text, words)[0]
        self.assertGreater(taken, 4000)

    def test_texts_by_chance_that_do_not_run_to_their_end(self):
        refused = 0
        for seed in range(400):
            writer = Writer(seed)
            text = spoilt(writer)
            words = [writer.pick(0, 1, 2, LARGEST) for _ in range(7)]
            with self.subTest(text=text, words=words):
                refused += self.assert_runs(text, words)[0] < 0
        self.assertGreater(refused, 100)


def spoilt(writer):
    """A text in which a division, an index or a condition may be wrong."""
    text = writer.text()
    for right, wrong in [(") / ", ") / 0 * "), (") % 3]", ") % 4]"), (" delocal ", " delocal 1 ^ "), (" fi ", " fi ! ")]:
        if writer.chance.randrange(2):
            text = text.replace(right, wrong, 1)
    return text


class Refusals(unittest.TestCase):
    def assert_refused(self, text, words, back_refusal, place_name, about_refusal, about_name):
        """Both refuse alike, each at the place of what its own text has there."""
        with self.subTest(text):
            other = about(text)
            self.assertEqual(ran_back(text, words), back_refusal(text.index(place_name)))
            self.assertEqual(ran(other, words), about_refusal(other.index(about_name)))

    def test_places_are_those_of_the_text_turned_about(self):
        text = "int x; main { skip; x += 7 / 0; skip; }"
        self.assert_refused(text, [0], by_zero, "/", by_zero, "/")
        text = "int x; main { skip; x += (7 % 0); skip; }"
        self.assert_refused(text, [0], by_zero, "%", by_zero, "%")
        text = "int x, row[2]; main { x += 1; row[x] += 1; }"
        self.assert_refused(text, [2, 0, 0], outside, "row[x]", outside, "row [ x ]")
        text = "int x; main { if x { } else { } fi 1; }"
        self.assert_refused(text, [0], unfulfilled, "if", unfulfilled, "fi")
        text = "int x; main { from 1 do { } loop { } until x; }"
        self.assert_refused(text, [0], unfulfilled, "until", unfulfilled, "from")
        text = "int x; main { local y = x { } delocal 1; }"
        self.assert_refused(text, [0], unfulfilled, "local", unfulfilled, "delocal")

    def test_what_never_ends(self):
        text = "int x; main { from 0 do { x += 1; } loop { } until x = 0; }"
        self.assertEqual(ran_back(text, [0], 5000), STEPS_OVER)
        self.assertEqual(ran(about(text), [0], 5000), STEPS_OVER)


class Twice(unittest.TestCase):
    def assert_twice(self, text):
        once = about(text)
        twice = about(once)
        self.assertEqual(once, told_about(text))
        self.assertEqual(twice, told_so(text))
        self.assertEqual(about(twice), once)

    def test_written_texts(self):
        for text, _ in WRITTEN:
            with self.subTest(text):
                self.assert_twice(text)
        for statements, _ in COUNTED:
            self.assert_twice(text_of(statements))

    def test_a_text_that_is_told_so_already(self):
        text = "int x , r [ 2 ] ;\nproc f ( a ) {\na += 1 ;\nskip ;\n}\nmain {\ncall f ( x ) ;\nx <=> r [ 1 * ( 2 - 1 ) ] ;\n}\n"
        self.assertEqual(about(about(text)), text)

    def test_texts_by_chance(self):
        for seed in range(400):
            text = Writer(seed).text()
            with self.subTest(text):
                self.assert_twice(text)


if __name__ == "__main__":
    unittest.main()
