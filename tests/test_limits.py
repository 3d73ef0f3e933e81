"""The limits, each on both of its sides."""

import unittest

from tests.asking import OUT_OF_RANGE, OVER_LIMIT, asked, misplaced


def filled(text, length):
    """The text with blanks behind it, so that it has so many bytes."""
    return text + " " * (length - len(text))


class Bytes(unittest.TestCase):
    def test_the_most(self):
        self.assertEqual(asked(filled("int x; main { }", 65536)), [1])
        self.assertEqual(asked(filled("int x; main { } #", 65536)), [1])

    def test_one_more(self):
        for length in [65537, 66000]:
            self.assertEqual(asked(filled("int x; main { }", length)), OUT_OF_RANGE)

    def test_none(self):
        self.assertEqual(asked(""), misplaced(0))

    def test_the_end_of_the_longest_text(self):
        self.assertEqual(asked(filled("main {", 65536)), misplaced(65536))
        self.assertEqual(asked(filled("main { }", 65535) + "}"), misplaced(65535))


class Words(unittest.TestCase):
    def test_31_bytes(self):
        for word in ["a" * 31, "Z" + "9" * 30, "x" + "_" * 30]:
            self.assertEqual(asked("int %s; main { %s += 1; }" % (word, word)), [1])

    def test_32_bytes(self):
        for word in ["a" * 32, "Z" + "9" * 31, "x" + "_" * 31, "a" * 60000]:
            self.assertEqual(asked("int %s; main { }" % word), OVER_LIMIT)

    def test_names_that_differ_in_their_last_byte(self):
        self.assertEqual(asked("int %s, %s; main { }" % ("a" * 31, "a" * 30 + "b")), [2])

    def test_as_procedure_parameter_local_and_handed(self):
        for text in ["proc %s() { } main { call %s(); }",
                     "proc f(%s) { call f(%s); } main { }",
                     "main { local %s = 1 { %s += 1; } delocal 2; }"]:
            self.assertEqual(asked(text % ("n" * 31, "n" * 31)), [0])
            self.assertEqual(asked(text % ("n" * 32, "n" * 32)), OVER_LIMIT)


class Numbers(unittest.TestCase):
    def test_the_largest(self):
        self.assertEqual(asked("int x; main { x += 4294967295; }"), [1])
        self.assertEqual(asked("int x; main { x += 0; }"), [1])

    def test_larger_ones(self):
        for number in ["4294967296", "4294967300", "9999999999", "42949672950", "1" + "0" * 5000]:
            with self.subTest(number):
                self.assertEqual(asked("int x; main { x += %s; }" % number), OVER_LIMIT)
                self.assertEqual(asked("int x[%s]; main { }" % number), OVER_LIMIT)

    def test_zeros_ahead_make_a_number_no_larger(self):
        self.assertEqual(asked("int x[" + "0" * 60000 + "12]; main { }"), [12])
        self.assertEqual(asked("int x; main { x += " + "0" * 50 + "4294967295; }"), [1])
        self.assertEqual(asked("int x; main { x += " + "0" * 50 + "4294967296; }"), OVER_LIMIT)


def deep_blocks(count, within="skip;"):
    """A text with so many { within one another, main's among them."""
    ahead = "if 1 { " * (count - 1)
    behind = " } else { } fi 1;" * (count - 1)
    return "int x, r[9]; main { " + ahead + within + behind + " }"


class Nesting(unittest.TestCase):
    def assert_edge(self, make, others=1):
        """make(n) has n within one another, beside the others that stand round them."""
        self.assertEqual(asked(make(32 - others)), [10])
        self.assertEqual(asked(make(33 - others)), OVER_LIMIT)
        self.assertEqual(asked(make(60)), OVER_LIMIT)

    def test_blocks(self):
        self.assert_edge(deep_blocks, 0)

    def test_blocks_of_every_statement(self):
        for ahead, behind in [("if 1 { } else { ", " } fi 1;"), ("from 1 do { ", " } loop { } until 1;"),
                              ("from 1 do { } loop { ", " } until 1;")]:
            with self.subTest(ahead):
                self.assert_edge(lambda n: "int x, r[9]; main { " + ahead * n + behind * n + " }")
        self.assert_edge(lambda n: "int x, r[9]; main { "
                         + "".join("local a%d = 1 { " % k for k in range(n)) + " } delocal 1;" * n + " }")

    def test_in_a_procedure(self):
        for ahead in ["proc f() { ", "proc f(a, b[]) { "]:
            self.assert_edge(lambda n: "int x, r[9]; " + ahead
                             + "if 1 { " * n + " } else { } fi 1;" * n + " } main { }")

    def test_round_brackets(self):
        self.assert_edge(lambda n: "int x, r[9]; main { x += " + "(" * n + "1" + ")" * n + "; }")

    def test_square_brackets(self):
        self.assert_edge(lambda n: "int x, r[9]; main { x += " + "r[" * n + "1" + "]" * n + "; }")

    def test_of_the_variable_that_is_changed(self):
        self.assert_edge(lambda n: "int x, r[9]; main { r[" + "(" * (n - 1) + "1" + ")" * (n - 1) + "] += 1; }")
        self.assert_edge(lambda n: "int x, r[9]; main { x <=> r[" + "(" * (n - 1) + "1" + ")" * (n - 1) + "]; }")

    def test_negations(self):
        self.assert_edge(lambda n: "int x, r[9]; main { x += " + "!" * n + "1; }")
        self.assert_edge(lambda n: "int x, r[9]; main { if " + "!" * n + "x { } else { } fi 1; }")

    def test_all_four_within_one_another(self):
        for count in range(1, 32):
            for inner in ["(1)", "!1", "r[1]"]:
                within = "x += " + "(" * (31 - count) + inner + ")" * (31 - count) + ";"
                with self.subTest(count=count, inner=inner):
                    self.assertEqual(asked(deep_blocks(count, within)), [10])
                    self.assertEqual(asked(deep_blocks(count + 1, within)), OVER_LIMIT)
        mixed = "x += " + "!(r[" * 10 + "%s" + "])" * 10 + ";"
        self.assertEqual(asked(deep_blocks(1, mixed % "!1")), [10])
        self.assertEqual(asked(deep_blocks(1, mixed % "!!1")), OVER_LIMIT)
        self.assertEqual(asked(deep_blocks(1, mixed % "!r[0]")), OVER_LIMIT)
        self.assertEqual(asked(deep_blocks(1, mixed % "!(0)")), OVER_LIMIT)

    def test_a_negation_lasts_until_its_operand_ends(self):
        for operand in ["1", "x", "(1)", "r[1]", "(r[1])"]:
            many = " + ".join(["!" + operand] * 100)
            with self.subTest(operand):
                self.assertEqual(asked("int x, r[9], y; main { y += " + many + "; }"), [11])
        self.assertEqual(asked("int x, r[9]; main { x += " + "!" * 30 + "r[1]; }"), [10])
        self.assertEqual(asked("int x, r[9]; main { x += " + "!" * 31 + "r[1]; }"), OVER_LIMIT)
        self.assertEqual(asked("int x, r[9]; main { x += " + "!" * 31 + "1 + r[1]; }"), [10])
        self.assertEqual(asked("int x, r[9]; main { x += " + "!" * 30 + "r[1] + (1) + " + "!" * 31 + "1; }"), [10])

    def test_beside_one_another_is_not_within(self):
        self.assertEqual(asked("int x, r[9]; main { " + "x += (1) + r[1] + !1; " * 40 + "}"), [10])
        self.assertEqual(asked("int x, r[9]; main { " + "if 1 { } else { } fi 1; " * 40 + "}"), [10])
        self.assertEqual(asked("".join("proc f%d() { } " % k for k in range(40)) + "main { }"), [0])

    def test_brackets_that_are_not_counted(self):
        for called, parameters in [("call f(r);", "a[]"), ("uncall f(r, x);", "a[], b"), ("call f();", "")]:
            with self.subTest(called):
                text = deep_blocks(32, called).replace("main", "proc f(" + parameters + ") { } main")
                self.assertEqual(asked(text), [10])
        self.assertEqual(asked(deep_blocks(32, "x += 1;")), [10])
        self.assertEqual(asked(deep_blocks(32, "x += (1);")), OVER_LIMIT)
        self.assertEqual(asked("int " + "".join("r%d[2], " % k for k in range(40)) + "x; main { }"), [81])
        in_procedure = deep_blocks(32).replace("main", "proc f(a[], b[])") + " main { }"
        self.assertEqual(asked(in_procedure), [10])

    def test_at_the_edge_a_token_that_can_not_stand_is_told(self):
        text = deep_blocks(32, "")
        ahead = text[:text.index("}")]
        for token in ["(", "[", "!", "{"]:
            with self.subTest(token):
                self.assertEqual(asked(ahead + token), misplaced(len(ahead)))
        self.assertEqual(asked(ahead + "if 1 {"), OVER_LIMIT)
        self.assertEqual(asked(ahead + "r["), OVER_LIMIT)
        self.assertEqual(asked(ahead + "x += !"), OVER_LIMIT)
        self.assertEqual(asked(ahead + "x += 1 ("), misplaced(len(ahead) + 7))


class OfAWholeText(unittest.TestCase):
    def test_words_of_globals(self):
        self.assertEqual(asked("int r[4096]; main { }"), [4096])
        self.assertEqual(asked("int r[4097]; main { }"), OVER_LIMIT)
        self.assertEqual(asked("int r[4294967295]; main { }"), OVER_LIMIT)
        self.assertEqual(asked("int x, r[4000], y, s[94]; main { }"), [4096])
        self.assertEqual(asked("int x, r[4000], y, s[95]; main { }"), OVER_LIMIT)
        self.assertEqual(asked("int r[4096], s[0]; main { }"), [4096])

    def test_globals(self):
        for size, words in [("", 256), ("[0]", 0), ("[16]", 4096)]:
            names = ["g%d%s" % (k, size) for k in range(256)]
            self.assertEqual(asked("int " + ",".join(names) + "; main { }"), [words])
            self.assertEqual(asked("int " + ",".join(names + ["more[0]"]) + "; main { }"), OVER_LIMIT)

    def test_procedures(self):
        procedures = "".join("proc f%d() { }\n" % k for k in range(256))
        self.assertEqual(asked("int x; " + procedures + "main { }"), [1])
        self.assertEqual(asked("int x; " + procedures + "proc more() { } main { }"), OVER_LIMIT)

    def test_parameters(self):
        names = ",".join("p%d" % k for k in range(16))
        rows = ",".join("p%d[]" % k for k in range(16))
        for text in ["int x; proc f(%s) { } main { }", "int x; proc e() { } proc f(%s) { } proc g() { } main { }"]:
            for parameters in [names, rows]:
                self.assertEqual(asked(text % parameters), [1])
                self.assertEqual(asked(text % (parameters + ",q")), OVER_LIMIT)
                self.assertEqual(asked(text % (parameters + ",q[]")), OVER_LIMIT)

    def test_parameters_are_counted_of_one_procedure(self):
        names = ",".join("p%d" % k for k in range(16))
        self.assertEqual(asked("proc f(%s) { } proc g(%s) { } main { }" % (names, names)), [0])


if __name__ == "__main__":
    unittest.main()
