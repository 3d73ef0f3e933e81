"""How check is called: what is handed in, what is given back, and how far its calls nest."""

import inspect
import sys
import unittest

from tests.asking import as_bytes, asked, broken, misplaced
from undorundesk.desk import check

TEXTS = [
    "", "main { }", "int x, r[3]; proc f(a) { a += 1; } main { call f(x); r[x] ^= !x; }", "main { x += 1; }",
    "int r[4097]; main { }", "main { ; }", "int x; main { x += 4294967296; }", " " * 65537,
    "int x; proc f() { local x = 1 { } delocal 1; } main { local y = 1 { } delocal 1; call f(); }",
]


class Frozen(list):
    """A list that can be read, but not changed even for a while."""

    def refuse(self, *ignored):
        raise TypeError("what is handed in was to be changed")

    append = extend = insert = pop = remove = clear = sort = reverse = refuse
    __setitem__ = __delitem__ = __iadd__ = __imul__ = refuse


class Interface(unittest.TestCase):
    def test_the_argument_and_what_is_given_back(self):
        self.assertEqual(list(inspect.signature(check).parameters), ["text"])
        for text in TEXTS:
            answer = check(text=as_bytes(text))
            self.assertIs(type(answer), list)
            self.assertEqual(len(answer), 1)
            self.assertIs(type(answer[0]), int)

    def test_what_is_handed_in_is_not_changed(self):
        for text in TEXTS:
            handed = as_bytes(text)
            check(handed)
            self.assertEqual(handed, as_bytes(text))
            self.assertEqual(check(Frozen(handed)), check(handed))

    def test_nothing_is_kept(self):
        alone = [asked(text) for text in TEXTS]
        for first, text in enumerate(TEXTS):
            for second, other in enumerate(TEXTS):
                self.assertEqual(asked(text), alone[first])
                self.assertEqual(asked(other), alone[second])

    def test_an_answer_is_its_own(self):
        first = asked("main { }")
        first.append(1)
        self.assertEqual(asked("main { }"), [0])


def with_little_room(text):
    """What check answers when few calls can stand within one another."""
    room = len(inspect.stack()) + 200
    before = sys.getrecursionlimit()
    sys.setrecursionlimit(room)
    try:
        return check(text)
    finally:
        sys.setrecursionlimit(before)


def filled(ahead, again, behind, length=65536):
    """As many of what can stand again and again as fit, then blanks up to so many bytes."""
    times = (length - len(ahead) - len(behind)) // len(again)
    text = ahead + again * times + behind
    return text + " " * (length - len(text))


class LongTexts(unittest.TestCase):
    def assert_long(self, text, answer):
        self.assertEqual(len(text), 65536)
        with self.subTest(text[:40]):
            self.assertEqual(with_little_room(as_bytes(text)), answer)

    def test_as_many_as_fit(self):
        self.assert_long(filled("int x,y;main{x+=y", "+y", ";}"), [2])
        self.assert_long(filled("int x,y;main{x+=y", "+!y", ";}"), [2])
        self.assert_long(filled("int x,y;main{x+=y", "|y*(y)", ";}"), [2])
        self.assert_long(filled("int x,y;main{x+=y", "|y^y&y=y+y*y", ";}"), [2])
        self.assert_long(filled("int x,r[2];main{x+=1", "+r[1]", ";}"), [3])
        self.assert_long(filled("int x;main{", "x+=1;", "}"), [1])
        self.assert_long(filled("int x;main{", "skip;", "}"), [1])
        self.assert_long(filled("int x;main{", "x<=>x;", "}"), [1])
        self.assert_long(filled("int x;main{", "if x{}else{}fi x;", "}"), [1])
        self.assert_long(filled("int x;main{", "from x do{}loop{}until x;", "}"), [1])
        self.assert_long(filled("int x;main{", "local a=x{}delocal x;", "}"), [1])
        self.assert_long(filled("int x;proc f(a){}main{", "call f(x);", "}"), [1])
        self.assert_long(filled("", "#\n", "main{}"), [0])

    def test_wrong_ones(self):
        self.assert_long(filled("int x;main{x+=1", "+x", ";}"), broken(16))
        self.assert_long(filled("main{", "x+=1;", "}"), broken(5))
        self.assert_long(filled("int x", ",x", ";main{}"), broken(6))
        self.assert_long(filled("proc f(a", ",a", "){}main{}"), broken(9))
        self.assert_long(filled("", "proc f(){}", "main{}"), broken(15))
        self.assert_long(filled("proc f(){}main{call f(f", ",f", ");}"), broken(20))
        self.assert_long(filled("main{", "skip;", ""), misplaced(65536))
        self.assert_long("{" * 65536, misplaced(0))
        self.assert_long("main" + "{" * 65532, misplaced(5))
        self.assert_long(filled("main{x+=", "!", ""), [-5])
        self.assert_long(filled("main{x+=", "(", ""), [-5])
        self.assert_long(filled("main{", "if 1{", ""), [-5])
        self.assert_long("a" * 65536, [-5])
        self.assert_long("9" * 65536, [-5])
        self.assert_long("0" * 65536, misplaced(0))

    def test_many_locals_beside_many_globals(self):
        names = ",".join("g%d" % k for k in range(5000))
        self.assert_long(filled("int " + names + ";main{", "local a=1{}delocal 1;", "}"), [-5])

    def test_as_deep_as_can_be(self):
        blocks = "if 1{" * 31
        self.assert_long(filled("int x;main{" + blocks, "x+=1;", "}else{}fi 1;" * 31 + "}"), [1])
        self.assert_long(filled("int x,r[2];main{x+=" + "r[" * 31 + "1", "+1", "]" * 31 + ";}"), [3])
        self.assert_long(filled("int x,r[2];main{x+=" + "(" * 31 + "1", "+1", ")" * 31 + ";}"), [3])
        self.assert_long(filled("int x,y;main{x+=1", "+" + "!" * 31 + "y", ";}"), [2])


if __name__ == "__main__":
    unittest.main()
