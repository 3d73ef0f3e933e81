"""How the functions are called: what is handed in, what is given back, and how far their calls nest."""

import inspect
import sys
import unittest

from tests.asking import LARGEST, LARGEST_MOST, MOST_STEPS, as_bytes, asked, broken, by_zero, misplaced
from tests.retelling import spaced
from undorundesk.desk import check, run, turn

TEXTS = [
    "", "main { }", "int x, r[3]; proc f(a) { a += 1; } main { call f(x); r[x] ^= !x; }", "main { x += 1; }",
    "int r[4097]; main { }", "main { ; }", "int x; main { x += 4294967296; }", " " * 65537,
    "int x; proc f() { local x = 1 { } delocal 1; } main { local y = 1 { } delocal 1; call f(); }",
]


# What can be run, and words for it; some to the end, some to a refusal.
RUNS = [
    ("main { }", []), ("int x, r[3]; main { }", [4, 3, 2, 1]), ("int x; main { x += 1; }", [LARGEST]), ("main { ; }", []),
    ("int x, r[3]; proc f(a, b[]) { a += 1; b[a] ^= 7; } main { call f(x, r); x <=> r[0]; }", [0, 3, 2, 1]),
    ("int x; main { local y = x { y += 1; x += 1; } delocal x; }", [3]), ("int x; main { x += 1; x += 1 / 0; }", [3]),
    ("int x; main { from x = 0 do { x += 1; } loop { } until x = 0; }", [0]), ("int x; main { x += 1; }", []),
    ("int x; main { x += 1; if x { } else { } fi 0; }", [1]), ("int x; main { x -= 1; x += y; }", [1]),
]


class Frozen(list):
    """A list that can be read, but not changed even for a while."""

    def refuse(self, *ignored):
        raise TypeError("what is handed in was to be changed")

    append = extend = insert = pop = remove = clear = sort = reverse = refuse
    __setitem__ = __delitem__ = __iadd__ = __imul__ = refuse


class Interface(unittest.TestCase):
    def test_the_argument_and_what_is_given_back(self):
        self.assertEqual(list(inspect.signature(check).parameters), ["text"])
        for text in TEXTS:
            answer = check(text=as_bytes(text))
            self.assertIs(type(answer), list)
            self.assertEqual(len(answer), 1)
            self.assertIs(type(answer[0]), int)

    def test_what_is_handed_in_is_not_changed(self):
        for text in TEXTS:
            handed = as_bytes(text)
            check(handed)
            self.assertEqual(handed, as_bytes(text))
            self.assertEqual(check(Frozen(handed)), check(handed))

    def test_nothing_is_kept(self):
        alone = [asked(text) for text in TEXTS]
        for first, text in enumerate(TEXTS):
            for second, other in enumerate(TEXTS):
                self.assertEqual(asked(text), alone[first])
                self.assertEqual(asked(other), alone[second])

    def test_an_answer_is_its_own(self):
        first = asked("main { }")
        first.append(1)
        self.assertEqual(asked("main { }"), [0])


class RunInterface(unittest.TestCase):
    def test_the_arguments_and_what_is_given_back(self):
        self.assertEqual(list(inspect.signature(run).parameters), ["steps", "back", "text", "words"])
        for text, words in RUNS:
            for back in [0, 1]:
                answer = run(steps=500, back=back, text=as_bytes(text), words=list(words))
                self.assertIs(type(answer), list)
                self.assertEqual(len(answer), 1 if answer[0] < 0 else 1 + len(words))
                for number in answer:
                    self.assertIs(type(number), int)

    def test_what_is_handed_in_is_not_changed(self):
        for text, words in RUNS:
            for back in [0, 1]:
                handed, given = as_bytes(text), list(words)
                answer = run(500, back, handed, given)
                self.assertEqual(handed, as_bytes(text))
                self.assertEqual(given, words)
                self.assertEqual(run(500, back, Frozen(handed), Frozen(given)), answer)

    def test_nothing_is_kept(self):
        ways = [(text, words, back) for text, words in RUNS for back in [0, 1]]
        alone = [run(500, back, as_bytes(text), words) for text, words, back in ways]
        for first, (text, words, back) in enumerate(ways):
            for second, (other, others, other_back) in enumerate(ways):
                self.assertEqual(run(500, back, as_bytes(text), words), alone[first])
                self.assertEqual(run(500, other_back, as_bytes(other), others), alone[second])

    def test_an_answer_is_its_own(self):
        words = [4, 3, 2, 1]
        answer = run(1, 0, as_bytes("int x, r[3]; main { }"), words)
        answer[1] = 9
        answer.append(1)
        self.assertEqual(words, [4, 3, 2, 1])
        self.assertEqual(run(1, 0, as_bytes("int x, r[3]; main { }"), words), [0, 4, 3, 2, 1])


class TurnInterface(unittest.TestCase):
    def test_the_arguments_and_what_is_given_back(self):
        self.assertEqual(list(inspect.signature(turn).parameters), ["most", "text"])
        for text in TEXTS:
            for most in [0, 20, LARGEST_MOST]:
                answer = turn(most=most, text=as_bytes(text))
                self.assertIs(type(answer), list)
                self.assertEqual(len(answer), 1 if answer[0] < 0 else 1 + answer[0])
                for number in answer:
                    self.assertIs(type(number), int)
                for number in answer[1:]:
                    self.assertTrue(0 <= number <= 255)

    def test_what_is_handed_in_is_not_changed(self):
        for text in TEXTS:
            handed = as_bytes(text)
            answer = turn(LARGEST_MOST, handed)
            self.assertEqual(handed, as_bytes(text))
            self.assertEqual(turn(LARGEST_MOST, Frozen(handed)), answer)

    def test_nothing_is_kept(self):
        ways = [(text, most) for text in TEXTS for most in [0, 50, LARGEST_MOST]]
        alone = [turn(most, as_bytes(text)) for text, most in ways]
        for first, (text, most) in enumerate(ways):
            for second, (other, other_most) in enumerate(ways):
                self.assertEqual(turn(most, as_bytes(text)), alone[first])
                self.assertEqual(turn(other_most, as_bytes(other)), alone[second])

    def test_an_answer_is_its_own(self):
        handed = as_bytes("int x; main { x += 7; }")
        first = turn(LARGEST_MOST, handed)
        kept = list(first)
        first[1:] = [0]
        self.assertEqual(handed, as_bytes("int x; main { x += 7; }"))
        self.assertEqual(turn(LARGEST_MOST, handed), kept)


def with_little_room(ask, *handed):
    """What a function answers when few calls can stand within one another."""
    room = len(inspect.stack()) + 200
    before = sys.getrecursionlimit()
    sys.setrecursionlimit(room)
    try:
        return ask(*handed)
    finally:
        sys.setrecursionlimit(before)


def filled(ahead, again, behind, length=65536):
    """As many of what can stand again and again as fit, then blanks up to so many bytes."""
    times = (length - len(ahead) - len(behind)) // len(again)
    text = ahead + again * times + behind
    return text + " " * (length - len(text))


class LongTexts(unittest.TestCase):
    def assert_long(self, text, answer):
        self.assertEqual(len(text), 65536)
        with self.subTest(text[:40]):
            self.assertEqual(with_little_room(check, as_bytes(text)), answer)

    def test_as_many_as_fit(self):
        self.assert_long(filled("int x,y;main{x+=y", "+y", ";}"), [2])
        self.assert_long(filled("int x,y;main{x+=y", "+!y", ";}"), [2])
        self.assert_long(filled("int x,y;main{x+=y", "|y*(y)", ";}"), [2])
        self.assert_long(filled("int x,y;main{x+=y", "|y^y&y=y+y*y", ";}"), [2])
        self.assert_long(filled("int x,r[2];main{x+=1", "+r[1]", ";}"), [3])
        self.assert_long(filled("int x;main{", "x+=1;", "}"), [1])
        self.assert_long(filled("int x;main{", "skip;", "}"), [1])
        self.assert_long(filled("int x;main{", "x<=>x;", "}"), [1])
        self.assert_long(filled("int x;main{", "if x{}else{}fi x;", "}"), [1])
        self.assert_long(filled("int x;main{", "from x do{}loop{}until x;", "}"), [1])
        self.assert_long(filled("int x;main{", "local a=x{}delocal x;", "}"), [1])
        self.assert_long(filled("int x;proc f(a){}main{", "call f(x);", "}"), [1])
        self.assert_long(filled("", "#\n", "main{}"), [0])

    def test_wrong_ones(self):
        self.assert_long(filled("int x;main{x+=1", "+x", ";}"), broken(16))
        self.assert_long(filled("main{", "x+=1;", "}"), broken(5))
        self.assert_long(filled("int x", ",x", ";main{}"), broken(6))
        self.assert_long(filled("proc f(a", ",a", "){}main{}"), broken(9))
        self.assert_long(filled("", "proc f(){}", "main{}"), broken(15))
        self.assert_long(filled("proc f(){}main{call f(f", ",f", ");}"), broken(20))
        self.assert_long(filled("main{", "skip;", ""), misplaced(65536))
        self.assert_long("{" * 65536, misplaced(0))
        self.assert_long("main" + "{" * 65532, misplaced(5))
        self.assert_long(filled("main{x+=", "!", ""), [-5])
        self.assert_long(filled("main{x+=", "(", ""), [-5])
        self.assert_long(filled("main{", "if 1{", ""), [-5])
        self.assert_long("a" * 65536, [-5])
        self.assert_long("9" * 65536, [-5])
        self.assert_long("0" * 65536, misplaced(0))

    def test_many_locals_beside_many_globals(self):
        names = ",".join("g%d" % k for k in range(5000))
        self.assert_long(filled("int " + names + ";main{", "local a=1{}delocal 1;", "}"), [-5])

    def test_as_deep_as_can_be(self):
        blocks = "if 1{" * 31
        self.assert_long(filled("int x;main{" + blocks, "x+=1;", "}else{}fi 1;" * 31 + "}"), [1])
        self.assert_long(filled("int x,r[2];main{x+=" + "r[" * 31 + "1", "+1", "]" * 31 + ";}"), [3])
        self.assert_long(filled("int x,r[2];main{x+=" + "(" * 31 + "1", "+1", ")" * 31 + ";}"), [3])
        self.assert_long(filled("int x,y;main{x+=1", "+" + "!" * 31 + "y", ";}"), [2])


class LongRuns(unittest.TestCase):
    def assert_long(self, text, words, answer):
        self.assertEqual(len(text), 65536)
        with self.subTest(text[:40]):
            self.assertEqual(with_little_room(run, MOST_STEPS, 0, as_bytes(text), words), answer)
            if answer[0] >= 0:
                again = with_little_room(run, MOST_STEPS, 1, as_bytes(text), answer[1:])
                self.assertEqual(again, [answer[0]] + words)

    def test_long_expressions(self):
        times = (65536 - 19) // 2
        self.assert_long(filled("int x,y;main{x+=y", "+y", ";}"), [0, 3], [1, 3 * (times + 1), 3])
        self.assert_long(filled("int x,y;main{x+=y", "-y", ";}"), [0, 3], [1, (3 - 3 * times) % (LARGEST + 1), 3])
        self.assert_long(filled("int x,y;main{x+=1", "*y", ";}"), [0, 3], [1, pow(3, times, LARGEST + 1), 3])
        self.assert_long(filled("int x,y;main{x+=y", "|y^y&y=y+y*y", ";}"), [0, 2], [1, 2, 2])
        self.assert_long(filled("int x,y;main{x+=1", "/y", ";}"), [0, 0], by_zero(17))
        self.assert_long(filled("int x,r[2];main{r[1", "-0", "]+=x;}"), [5, 1, 2], [1, 5, 1, 7])
        self.assert_long(filled("int x,r[2];main{x+=0", "+r[1]", ";}"), [0, 0, 1], [1, (65536 - 22) // 5, 0, 1])

    def test_long_blocks(self):
        times = (65536 - 12) // 5
        self.assert_long(filled("int x;main{", "x+=1;", "}"), [0], [times, times])
        self.assert_long(filled("int x;main{", "skip;", "}"), [7], [times, 7])
        self.assert_long(filled("int x;proc f(a){a+=3;}main{", "call f(x);", "}"), [0], [2 * 6550, 3 * 6550])
        self.assert_long(filled("int x;main{", "local a=x{}delocal x;", "}"), [7], [(65536 - 12) // 21, 7])
        self.assert_long(filled("int x;main{", "if x{}else{}fi x;", "}"), [7], [(65536 - 12) // 17, 7])
        self.assert_long(filled("int x;main{", "from x do{}loop{}until x;", "}"), [7], [2 * ((65536 - 12) // 25), 7])

    def test_as_deep_as_can_be(self):
        times = (65536 - 11 - 31 * 17 - 1) // 5
        self.assert_long(filled("int x;main{" + "if 1{" * 31, "x+=1;", "}else{}fi 1;" * 31 + "}"), [0], [31 + times, times])
        self.assert_long(filled("int x,r[2];main{x+=" + "r[" * 31 + "1", "-0", "]" * 31 + ";}"), [0, 0, 1], [1, 1, 0, 1])
        self.assert_long(filled("int x,y;main{x+=1", "+" + "!" * 31 + "y", ";}"), [0, 0], [1, 1 + (65536 - 19) // 33, 0])

    def test_calls_within_one_another(self):
        text = "int n; proc f(n) { if n = 0 { } else { n -= 1; call f(n); n += 1; } fi n = 0; } main { call f(n); }"
        answer = with_little_room(run, MOST_STEPS, 0, as_bytes(text), [20000])
        self.assertEqual(answer, [2 + 4 * 20000, 20000])


class LongTurns(unittest.TestCase):
    def assert_long(self, text, wanted):
        """Wanted is the text turned about, but with single blanks where line feeds stand."""
        with self.subTest(text[:40]):
            self.assertLessEqual(len(text), 65536)
            told = as_bytes(spaced(wanted.split()))
            self.assertEqual(with_little_room(turn, LARGEST_MOST, as_bytes(text)), [len(told)] + told)

    def assert_long_expression(self, ahead, again, behind, told_ahead, told_again, told_behind):
        """What stands again and again in the expression fills the text up."""
        start, end = "int x,y,r[2];main{x+=", ";}"
        text = filled(start + ahead, again, behind + end)
        times = (65536 - len(start + ahead + behind + end)) // len(again)
        told = told_ahead + (" " + told_again) * times + " " + told_behind
        self.assert_long(text, "int x , y , r [ 2 ] ; main { x -= " + told + " ; }")

    def test_long_expressions(self):
        for sign in ["|", "^", "&", "=", "!=", "<", "<=", "+", "-", "*", "/", "%"]:
            self.assert_long_expression("y", sign + "y", "", "y", sign + " y", "")
        self.assert_long_expression("y", "+!y", "", "y", "+ ! y", "")
        self.assert_long_expression("y", "|y*(y)", "", "y", "| y * y", "")
        self.assert_long_expression("y", "*(y|y)", "", "y", "* ( y | y )", "")
        self.assert_long_expression("y", "|y^y&y=y+y*y", "", "y", "| y ^ y & y = y + y * y", "")
        self.assert_long_expression("y", "+r[(1)]", "", "y", "+ r [ 1 ]", "")
        self.assert_long_expression("r[r[0", "+y", "]]", "r [ r [ 0", "+ y", "] ]")
        self.assert_long_expression("(" * 31 + "1", "+y", ")" * 31, "1", "+ y", "")

    def test_long_expressions_within_one_another(self):
        self.assert_long_expression("1-(" * 31 + "1", "-y", ")" * 31, "1 - ( " * 31 + "1", "- y", ") " * 31)
        self.assert_long_expression("(" * 31 + "1", "+y", "*y|y)" * 31, "( " * 30 + "1", "+ y", "* y | y ) " * 30 + "* y | y")
        self.assert_long_expression("!(" * 15 + "1", "+y", ")" * 15, "! " * 15 + "( 1", "+ y", ")")
        self.assert_long_expression("!(1+" * 15 + "1", "-y", ")" * 15, "! ( 1 + " * 15 + "1", "- y", ") " * 15)
        self.assert_long_expression("r[" * 31 + "1", "-0", "]" * 31, "r [ " * 31 + "1", "- 0", "] " * 31)
        self.assert_long_expression("1", "+" + "!" * 31 + "y", "", "1", "+ " + "! " * 31 + "y", "")

    def test_many_statements(self):
        self.assert_long("int x;main{" + "x+=1;" * 13000 + "}", "int x ; main { " + "x -= 1 ; " * 13000 + "}")
        self.assert_long("main{" + "skip;" * 13000 + "}", "main { " + "skip ; " * 13000 + "}")
        numbers = list(range(10000, 17000))
        told = "".join("x += %d ; " % number for number in reversed(numbers))
        text = "".join("x-=%d;" % number for number in numbers)
        self.assert_long("int x;main{" + text + "}", "int x ; main { " + told + "}")
        self.assert_long("int x;proc f(a){" + text.replace("x", "a") + "}main{}",
                         "int x ; proc f ( a ) { " + told.replace("x", "a") + "} main { }")
        self.assert_long("int x;main{" + "if x{}else{}fi 1;" * 3800 + "}",
                         "int x ; main { " + "if 1 { } else { } fi x ; " * 3800 + "}")

    def test_blocks_as_deep_as_can_be(self):
        forms = [
            ("if 1{", "}else{}fi 2;", "if 2 { ", "} else { } fi 1 ; "),
            ("if 1{}else{", "}fi 2;", "if 2 { } else { ", "} fi 1 ; "),
            ("from 1 do{", "}loop{}until 2;", "from 2 do { ", "} loop { } until 1 ; "),
            ("from 1 do{}loop{", "}until 2;", "from 2 do { } loop { ", "} until 1 ; "),
        ]
        for ahead, behind, told_ahead, told_behind in forms:
            text = "int x;main{" + ahead * 31 + "skip;" + "x+=1;" * 9000 + behind * 31 + "}"
            told = told_ahead * 31 + "x -= 1 ; " * 9000 + "skip ; " + told_behind * 31
            self.assert_long(text, "int x ; main { " + told + "}")
        names = ["l%d" % k for k in range(31)]
        text = "".join("local %s=1{" % name for name in names) + "skip;l30+=1;" + "}delocal 2;" * 31
        told = "".join("local %s = 2 { " % name for name in names) + "l30 -= 1 ; skip ; " + "} delocal 1 ; " * 31
        self.assert_long("main{" + text + "}", "main { " + told + "}")

    def test_a_long_number(self):
        number = "0" * 60000 + "7"
        self.assert_long("int x,r[" + number + "];main{}", "int x , r [ " + number + " ] ; main { }")
        self.assert_long("int x;main{x+=" + number + ";}", "int x ; main { x -= " + number + " ; }")


if __name__ == "__main__":
    unittest.main()
