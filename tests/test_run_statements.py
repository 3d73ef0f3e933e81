"""Each statement, on and back: the steps it takes, the words it leaves, and where it can't go on."""

import unittest

from tests.asking import LARGEST, BothWays, by_zero, marked, outside, ran, ran_back, unfulfilled


class Words(BothWays):
    def test_nothing_to_do(self):
        self.assert_both("main { }", [], 0, [])
        self.assert_both("int x, r[3], y; main { }", [1, 2, 3, 4, 5], 0, [1, 2, 3, 4, 5])

    def test_in_the_order_of_the_globals(self):
        text = "int z, r[3], a, s[0], m[1]; main { z += 1; r[0] += 2; r[1] += 3; r[2] += 4; a += 5; m[0] += 6; }"
        self.assert_both(text, [10, 20, 30, 40, 50, 60], 6, [11, 22, 33, 44, 55, 66])


class Changes(BothWays):
    def test_plus(self):
        text = "int x; main { x += 5; }"
        self.assert_both(text, [0], 1, [5])
        self.assert_both(text, [LARGEST - 5], 1, [LARGEST])
        self.assert_both(text, [LARGEST - 4], 1, [0])
        self.assert_both(text, [LARGEST], 1, [4])
        self.assert_both("int x; main { x += 4294967295; }", [LARGEST], 1, [LARGEST - 1])
        self.assert_both("int x; main { x += 0; }", [7], 1, [7])

    def test_minus(self):
        text = "int x; main { x -= 5; }"
        self.assert_both(text, [5], 1, [0])
        self.assert_both(text, [4], 1, [LARGEST])
        self.assert_both(text, [0], 1, [LARGEST - 4])
        self.assert_both("int x; main { x -= 4294967295; }", [0], 1, [1])

    def test_bit_by_bit(self):
        text = "int x; main { x ^= 5; }"
        self.assert_both(text, [3], 1, [6])
        self.assert_both(text, [6], 1, [3])
        self.assert_both(text, [LARGEST], 1, [LARGEST - 5])
        self.assert_both("int x; main { x ^= 4294967295; }", [0], 1, [LARGEST])

    def test_by_an_expression(self):
        self.assert_both("int x, y; main { x += y * 2 + 1; }", [10, 7], 1, [25, 7])
        self.assert_both("int x, y; main { x -= y * 2 + 1; }", [10, 7], 1, [LARGEST - 4, 7])
        self.assert_both("int x, y; main { x ^= y * 2 + 1; }", [10, 7], 1, [5, 7])

    def test_words_of_a_row(self):
        self.assert_both("int i, r[3]; main { r[0] += 9; }", [0, 1, 2, 3], 1, [0, 10, 2, 3])
        self.assert_both("int i, r[3]; main { r[i + 1] += i; }", [1, 1, 2, 3], 1, [1, 1, 2, 4])
        self.assert_both("int i, r[3]; main { r[i] -= 3; }", [2, 1, 2, 3], 1, [2, 1, 2, 0])
        self.assert_both("int i, r[3]; main { r[i] ^= 3; }", [1, 1, 2, 3], 1, [1, 1, 1, 3])
        self.assert_both("int r[2], s[2]; main { r[s[1]] += s[0]; }", [5, 6, 7, 1], 1, [5, 13, 7, 1])
        self.assert_both("int x, r[2]; main { x += r[r[0]]; }", [5, 1, 6], 1, [11, 1, 6])

    def test_where_it_can_not_go_on(self):
        for sign in ["+=", "-=", "^="]:
            for index in ["3", "4294967295", "i + 3", "0 - 1"]:
                text, place = marked("int i, r[3]; main { @r[%s] %s 1; }" % (index, sign))
                self.assertEqual(ran(text, [0, 1, 2, 3]), outside(place))
                self.assertEqual(ran_back(text, [0, 1, 2, 3]), outside(place))
            text, place = marked("int i, x, r[3]; main { x %s 1 + @r[i]; }" % sign)
            self.assertEqual(ran(text, [3, 0, 1, 2, 3]), outside(place))
            self.assertEqual(ran_back(text, [3, 0, 1, 2, 3]), outside(place))
            for divided in ["/", "%"]:
                text, place = marked("int i, x; main { x %s 1 @%s i; }" % (sign, divided))
                self.assertEqual(ran(text, [0, 9]), by_zero(place))
                self.assertEqual(ran_back(text, [0, 9]), by_zero(place))

    def test_a_row_without_words(self):
        text, place = marked("int r[0]; main { @r[0] += 1; }")
        self.assertEqual(ran(text, []), outside(place))
        self.assertEqual(ran_back(text, []), outside(place))


class Swaps(BothWays):
    def test_two_variables(self):
        self.assert_both("int x, y; main { x <=> y; }", [1, 2], 1, [2, 1])
        self.assert_both("int x, y; main { x <=> y; }", [0, LARGEST], 1, [LARGEST, 0])
        self.assert_both("int x, r[2]; main { x <=> r[1]; }", [1, 2, 3], 1, [3, 2, 1])
        self.assert_both("int x, r[2]; main { r[0] <=> x; }", [1, 2, 3], 1, [2, 1, 3])
        self.assert_both("int r[2], s[2]; main { r[1] <=> s[0]; }", [1, 2, 3, 4], 1, [1, 3, 2, 4])

    def test_two_words_of_one_row(self):
        self.assert_both("int r[3]; main { r[0] <=> r[2]; }", [1, 2, 3], 1, [3, 2, 1])
        self.assert_both("int i, r[3]; main { r[i] <=> r[i - 1]; }", [1, 7, 8, 9], 1, [1, 8, 7, 9])

    def test_a_variable_with_itself(self):
        self.assert_both("int x; main { x <=> x; }", [5], 1, [5])
        self.assert_both("int i, r[3]; main { r[i] <=> r[1]; }", [1, 7, 8, 9], 1, [1, 7, 8, 9])

    def test_where_it_can_not_go_on(self):
        for statement in ["@r[2] <=> s[0]", "r[0] <=> @s[2]", "@r[2] <=> s[2]", "@r[2] <=> r[1]", "r[1] <=> @r[2]",
                          "x <=> @r[2]", "@r[2] <=> x"]:
            text, place = marked("int x, r[2], s[2]; main { %s; }" % statement)
            self.assertEqual(ran(text, [0] * 5), outside(place))
            self.assertEqual(ran_back(text, [0] * 5), outside(place))
        for statement in ["r[1 @/ x] <=> s[1 / x]", "r[0] <=> s[1 @% x]"]:
            text, place = marked("int x, r[2], s[2]; main { %s; }" % statement)
            self.assertEqual(ran(text, [0] * 5), by_zero(place))
            self.assertEqual(ran_back(text, [0] * 5), by_zero(place))


class Skips(BothWays):
    def test_nothing_is_done(self):
        self.assert_both("int x; main { skip; }", [5], 1, [5])
        self.assert_both("int x; main { skip; skip; skip; }", [5], 3, [5])


class Blocks(BothWays):
    def test_back_is_from_the_last_to_the_first(self):
        text = "int x; main { x += 1; x ^= 6; x -= 2; }"
        self.assert_both(text, [1], 3, [2])
        self.assertEqual(ran(text, [2]), [3, 3])
        self.assertEqual(ran_back(text, [1]), [3, 4])

    def test_within_others(self):
        text = "int x; main { if 1 { x += 1; x ^= 6; } else { } fi 1; x -= 2; local y = 3 { x ^= 1; x += y; } delocal 3; }"
        self.assert_both(text, [1], 7, [6])
        self.assertEqual(ran(text, [6]), [7, 1])
        self.assertEqual(ran(text, [0]), [7, 7])

    def test_the_first_that_can_not_go_on(self):
        text = "int x; main { x += 1 / 0; x += 2 / 0; }"
        self.assertEqual(ran(text, [0]), by_zero(21))
        self.assertEqual(ran_back(text, [0]), by_zero(33))


class Ifs(BothWays):
    TEXT = "int c, d, x; main { if c { x += 1; x ^= 8; } else { x -= 2; } fi d; }"

    def test_the_first_block_if_it_is_not_0(self):
        for c in [1, 2, LARGEST]:
            for d in [1, 3, LARGEST]:
                self.assert_both(self.TEXT, [c, d, 10], 3, [c, d, 3])

    def test_the_second_block_if_it_is_0(self):
        self.assert_both(self.TEXT, [0, 0, 10], 2, [0, 0, 8])

    def test_what_must_hold_behind_it(self):
        text = self.TEXT
        for words in [[0, 1, 10], [0, LARGEST, 10], [1, 0, 10], [LARGEST, 0, 10]]:
            self.assertEqual(ran(text, words), unfulfilled(text.index("fi")))
            self.assertEqual(ran_back(text, words), unfulfilled(text.index("if")))

    def test_back_d_chooses(self):
        text = "int x; main { if x = 0 { x += 5; } else { x += 1; } fi x = 5; }"
        self.assert_both(text, [0], 2, [5])
        self.assert_both(text, [1], 2, [2])
        self.assertEqual(ran(text, [4]), unfulfilled(text.index("fi")))
        self.assertEqual(ran_back(text, [1]), unfulfilled(text.index("if")))
        self.assertEqual(ran_back(text, [0]), [2, LARGEST])

    def test_the_conditions_are_worked_out_when_they_are_come_to(self):
        text = "int x; main { if 6 / x { x -= 2; } else { } fi 6 % x; }"
        self.assertEqual(ran(text, [0]), by_zero(text.index("/")))
        self.assertEqual(ran(text, [2]), by_zero(text.index("%")))
        self.assertEqual(ran_back(text, [0]), by_zero(text.index("%")))
        text, place = marked("int x, r[2]; main { if @r[x] { } else { x += 1 / 0; } fi 1; }")
        self.assertEqual(ran(text, [2, 0, 0]), outside(place))
        text, place = marked("int x, r[2]; main { if 1 { x += 1 / 0; } else { } fi @r[x]; }")
        self.assertEqual(ran_back(text, [2, 0, 0]), outside(place))

    def test_places_of_ifs_within_ifs(self):
        text, place = marked("int x; main { if 1 { if x { } else { } @fi 1; } else { } fi 0; }")
        self.assertEqual(ran(text, [0]), unfulfilled(place))
        text, place = marked("int x; main { if 1 { if 1 { } else { } fi 1; } else { } @fi 0; }")
        self.assertEqual(ran(text, [0]), unfulfilled(place))
        text, place = marked("int x; main { if 0 { @if x { } else { } fi 1; } else { } fi 1; }")
        self.assertEqual(ran_back(text, [0]), unfulfilled(place))
        text, place = marked("int x; main { @if 0 { if 1 { } else { } fi 1; } else { } fi 1; }")
        self.assertEqual(ran_back(text, [0]), unfulfilled(place))


class Loops(BothWays):
    def test_rounds(self):
        text = "int x, y, z; main { from x = 0 do { y += 1; } loop { x += 1; z += y; } until x = 3; }"
        self.assert_both(text, [0, 0, 0], 1 + 4 + 4 + 6, [3, 4, 6])
        self.assert_both(text.replace("x = 3", "x = 0"), [0, 0, 0], 3, [0, 1, 0])

    def test_the_first_block_comes_ahead_of_the_question(self):
        text = "int x; main { from x = 0 do { x += 1; } loop { } until x = 3; }"
        self.assert_both(text, [0], 7, [3])
        self.assert_both("int x; main { from x = 0 do { x += 1; } loop { x += 1; } until x = 3; }", [0], 6, [3])

    def test_any_number_but_0_holds(self):
        for c in [1, 2, LARGEST]:
            for d in [1, 2, LARGEST]:
                self.assert_both("int c, d; main { from c do { } loop { } until d; }", [c, d], 2, [c, d])

    def test_what_must_hold_at_first(self):
        text = "int x, y; main { from x = 0 do { y += 1; } loop { x += 1; } until x = 3; }"
        for x in [1, 2, 3, LARGEST]:
            self.assertEqual(ran(text, [x, 0]), unfulfilled(text.index("from")))
        for x in [0, 1, 2, 4, LARGEST]:
            self.assertEqual(ran_back(text, [x, 0]), unfulfilled(text.index("until")))

    def test_what_must_not_hold_later(self):
        text = "int x; main { from x < 2 do { } loop { x += 1; } until x = 3; }"
        self.assertEqual(ran(text, [0]), unfulfilled(text.index("from")))
        self.assert_both(text, [1], 6, [3])
        self.assertEqual(ran(text, [2]), unfulfilled(text.index("from")))
        text = "int x; main { from x = 0 do { } loop { x += 1; } until 2 <= x; }"
        self.assert_both(text, [0], 6, [2])
        self.assertEqual(ran_back(text, [3]), unfulfilled(text.index("until")))
        self.assertEqual(ran_back(text, [1]), unfulfilled(text.index("until")))

    def test_blocks_back_are_from_the_last_to_the_first(self):
        text = "int i, x; main { from i = 0 do { x += 3; x ^= 5; } loop { x -= 1; x ^= i; i += 1; } until i = 2; }"
        words = [0, 0]
        # On: 3 ^ 5 = 6, 5 ^ 0 = 5; 8 ^ 5 = 13, 12 ^ 1 = 13; 16 ^ 5 = 21.
        self.assert_both(text, words, 1 + 3 * 3 + 2 * 3, [2, 21])

    def test_the_conditions_are_worked_out_when_they_are_come_to(self):
        text = "int x; main { from 6 / x do { x -= 2; } loop { } until 6 % x; }"
        self.assertEqual(ran(text, [0]), by_zero(text.index("/")))
        self.assertEqual(ran(text, [2]), by_zero(text.index("%")))
        self.assertEqual(ran_back(text, [0]), by_zero(text.index("%")))
        self.assertEqual(ran_back(text, [LARGEST - 1]), by_zero(text.index("/")))
        text = "int x; main { from 2 / x do { } loop { x -= 1; } until 0; }"
        self.assertEqual(ran(text, [1]), by_zero(text.index("/")))
        self.assertEqual(ran(text, [2]), unfulfilled(text.index("from")))

    def test_loops_within_loops(self):
        text = """int i, j, x; main {
            from i = 0 do { from j = 0 do { j += 1; x += 1; } loop { } until j = 3; j -= 3; } loop { i += 1; } until i = 2;
        }"""
        self.assert_both(text, [0, 0, 0], 1 + 3 * (1 + 1 + 9 + 1) + 2, [2, 0, 9])
        text, place = marked("int x; main { from 1 do { @from x do { } loop { } until 1; } loop { } until 1; }")
        self.assertEqual(ran(text, [0]), unfulfilled(place))
        text, place = marked("int x; main { from 1 do { from 1 do { } loop { } @until x; } loop { } until 1; }")
        self.assertEqual(ran_back(text, [0]), unfulfilled(place))


class Locals(BothWays):
    def test_a_new_variable(self):
        text = "int x, y; main { local a = x + 1 { y += a; a += 2; y += a; } delocal x + 3; }"
        self.assert_both(text, [5, 0], 4, [5, 14])
        self.assert_both("int x; main { local a = x { } delocal x; }", [5], 1, [5])
        self.assert_both("int x; main { local a = 7 { x += a; a -= 7; } delocal 0; }", [5], 3, [12])

    def test_it_takes_and_gives(self):
        self.assert_both("int x; main { local a = 0 { a <=> x; x += 1; a <=> x; x += 1; } delocal 1; }", [5], 5, [6])

    def test_what_it_must_be_in_the_end(self):
        text = "int x, y; main { local a = x { y += 1; } delocal y; }"
        self.assertEqual(ran(text, [3, 3]), unfulfilled(text.index("delocal")))
        self.assertEqual(ran(text, [3, 2]), [2, 3, 3])
        self.assertEqual(ran_back(text, [3, 3]), [2, 3, 2])
        self.assertEqual(ran_back(text, [3, 2]), unfulfilled(text.index("local")))
        text = "int x; main { local a = 0 { a += x; } delocal 2; }"
        self.assertEqual(ran(text, [2]), [2, 2])
        self.assertEqual(ran(text, [1]), unfulfilled(text.index("delocal")))
        self.assertEqual(ran_back(text, [2]), [2, 2])
        self.assertEqual(ran_back(text, [1]), unfulfilled(text.index("local")))

    def test_it_must_be_the_same_number_not_just_as_true(self):
        text = "main { local a = 1 { } delocal 2; }"
        self.assertEqual(ran(text), unfulfilled(text.index("delocal")))
        self.assertEqual(ran_back(text), unfulfilled(text.index("local")))

    def test_locals_within_locals(self):
        text = """int x; main {
            local a = 1 {
                local b = a + 1 { local c = a + b { x += a * 100 + b * 10 + c; } delocal 3; b += 5; } delocal 7;
                local c = 4 { x += c; } delocal a * 4;
            } delocal 1;
        }"""
        self.assert_both(text, [0], 7, [127])

    def test_one_after_another_with_the_same_name(self):
        text = "int x; main { local a = 1 { x += a; } delocal 1; local a = 2 { x += a; } delocal 2; }"
        self.assert_both(text, [0], 4, [3])

    def test_one_as_an_index(self):
        text = "int r[3]; main { local a = 2 { r[a] += a; r[a - 1] += a * a; } delocal 2; }"
        self.assert_both(text, [1, 1, 1], 3, [1, 5, 3])
        text, place = marked("int r[3]; main { local a = 3 { @r[a] += 1; } delocal 3; }")
        self.assertEqual(ran(text, [0, 0, 0]), outside(place))

    def test_in_a_loop_it_is_new_each_time(self):
        text = "int i, x; main { from i = 0 do { local a = i { x += a; a += 1; } delocal i + 1; } loop { i += 1; } until i = 3; }"
        self.assert_both(text, [0, 0], 1 + 4 * 4 + 3, [3, 6])

    def test_the_expressions_are_worked_out_when_they_are_come_to(self):
        text = "int x; main { local a = 6 / x { x -= 2; } delocal 6 % x; }"
        self.assertEqual(ran(text, [0]), by_zero(text.index("/")))
        self.assertEqual(ran(text, [2]), by_zero(text.index("%")))
        self.assertEqual(ran_back(text, [0]), by_zero(text.index("%")))
        self.assertEqual(ran_back(text, [LARGEST - 1]), by_zero(text.index("/")))
        text, place = marked("int x, r[2]; main { local a = 0 { } delocal @r[x]; }")
        self.assertEqual(ran(text, [2, 0, 0]), outside(place))
        text, place = marked("int x, r[2]; main { local a = @r[x] { } delocal 0; }")
        self.assertEqual(ran_back(text, [2, 0, 0]), outside(place))


if __name__ == "__main__":
    unittest.main()
