"""What turn refuses, which refusal is answered where there are several, and how many bytes it answers."""

import unittest

from tests.asking import LARGEST_MOST, NO_ROOM, OUT_OF_RANGE, as_bytes
from tests.test_ordinary import EVERYTHING
from tests.test_run_refusals import FAULTY
from undorundesk.desk import turn

EMPTY = "main {\n}\n"
TEXT = "int x, r[2]; main { x += 1; }"
ABOUT = "int x , r [ 2 ] ;\nmain {\nx -= 1 ;\n}\n"


class Room(unittest.TestCase):
    def test_the_number_is_how_many_bytes_stand_behind_it(self):
        for text in ["main { }", TEXT, EVERYTHING, TEXT.ljust(65536)]:
            answer = turn(LARGEST_MOST, as_bytes(text))
            self.assertEqual(answer[0], len(answer) - 1)
        self.assertEqual(turn(LARGEST_MOST, as_bytes("main{}")), [len(EMPTY)] + as_bytes(EMPTY))
        self.assertEqual(turn(LARGEST_MOST, as_bytes(TEXT)), [len(ABOUT)] + as_bytes(ABOUT))

    def test_just_as_many_and_one_less(self):
        for text in ["main{}", TEXT, EVERYTHING]:
            whole = turn(LARGEST_MOST, as_bytes(text))
            needed = whole[0]
            for most in [needed, needed + 1, 2 * needed, LARGEST_MOST - 1]:
                self.assertEqual(turn(most, as_bytes(text)), whole)
            for most in [needed - 1, needed - 2, needed // 2, 1, 0]:
                self.assertEqual(turn(most, as_bytes(text)), NO_ROOM)

    def test_it_is_the_answer_that_needs_room(self):
        # The text is longer than what is answered, or shorter.
        self.assertEqual(turn(len(EMPTY), as_bytes("main { } # " + "a" * 1000)), [len(EMPTY)] + as_bytes(EMPTY))
        self.assertEqual(turn(len("main{}"), as_bytes("main{}")), NO_ROOM)

    def test_none_at_all(self):
        self.assertEqual(turn(0, as_bytes("main { }")), NO_ROOM)
        self.assertEqual(turn(len(EMPTY) - 1, as_bytes("main { }")), NO_ROOM)


class Order(unittest.TestCase):
    def test_bytes_of_the_text(self):
        self.assertEqual(turn(LARGEST_MOST, as_bytes(TEXT.ljust(65536)))[0], len(ABOUT))
        for length in [65537, 65538, 66000]:
            for most in [0, 1, LARGEST_MOST]:
                self.assertEqual(turn(most, as_bytes(TEXT.ljust(length))), OUT_OF_RANGE)

    def test_bytes_of_the_text_come_ahead_of_what_stands_in_it(self):
        for text, _ in FAULTY:
            for most in [0, LARGEST_MOST]:
                self.assertEqual(turn(most, as_bytes(text.ljust(65537))), OUT_OF_RANGE)

    def test_refusals_of_the_text_come_ahead_of_the_room(self):
        for text, answer in FAULTY:
            with self.subTest(text[:40]):
                for most in [0, 1, 100, 65536, LARGEST_MOST]:
                    self.assertEqual(turn(most, as_bytes(text)), answer)

    def test_what_would_be_answered_may_be_longer_than_a_text_may_be(self):
        text = "int x;main{" + "x+=1;" * 13000 + "}"
        answer = turn(LARGEST_MOST, as_bytes(text))
        self.assertEqual(answer[0], len("int x ;\nmain {\n}\n") + 13000 * len("x -= 1 ;\n"))
        self.assertEqual(turn(65536, as_bytes(text)), NO_ROOM)
        self.assertEqual(turn(LARGEST_MOST, answer[1:]), OUT_OF_RANGE)

    def test_what_can_not_be_run_can_be_turned(self):
        text = "int x; main { x += 1 / 0; from 0 do { } loop { } until 0; }"
        self.assertGreater(turn(LARGEST_MOST, as_bytes(text))[0], 0)


if __name__ == "__main__":
    unittest.main()
