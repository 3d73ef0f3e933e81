"""Each place of the grammar, with every token: those that can stand there, and no other."""

import itertools
import unittest

from tests.asking import OVER_LIMIT, as_bytes, asked, misplaced
from undorundesk.grammar import Parser

TOKENS = [
    "name", "7", "int", "proc", "main", "if", "else", "fi", "from", "do", "loop", "until", "call", "uncall",
    "local", "delocal", "skip", "<=>", "+=", "-=", "^=", "<=", "!=", "{", "}", "(", ")", "[", "]", ",", ";",
    "=", "<", "+", "-", "*", "/", "%", "&", "|", "^", "!", "@", ">", "_", "$",
]

OPERAND = "name 7 ! ("
OPERATORS = "| ^ & = != <= < + - * / %"
STATEMENT = "name if from call uncall local skip }"
CHANGE = "+= -= ^= <=>"

# What stands ahead, and which tokens can stand behind it; "" is the text's end.
PLACES = [
    ("", "int proc main"),
    ("int", "name"),
    ("int x", "[ , ;"),
    ("int x [", "7"),
    ("int x [ 3", "]"),
    ("int x [ 3 ]", ", ;"),
    ("int x ,", "name"),
    ("int x , y", "[ , ;"),
    ("int x ;", "proc main"),
    ("proc", "name"),
    ("proc f", "("),
    ("proc f (", "name )"),
    ("proc f ( a", "[ , )"),
    ("proc f ( a [", "]"),
    ("proc f ( a [ ]", ", )"),
    ("proc f ( a ,", "name"),
    ("proc f ( a , b", "[ , )"),
    ("proc f ( )", "{"),
    ("proc f ( a )", "{"),
    ("proc f ( ) {", STATEMENT),
    ("proc f ( ) { }", "proc main"),
    ("main", "{"),
    ("main {", STATEMENT),
    ("main { skip", ";"),
    ("main { skip ;", STATEMENT),
    ("main { x", "[ " + CHANGE),
    ("main { x [", OPERAND),
    ("main { x [ 1", OPERATORS + " ]"),
    ("main { x [ y", OPERATORS + " ] ["),
    ("main { x [ 1 ]", CHANGE),
    ("main { x +=", OPERAND),
    ("main { x -=", OPERAND),
    ("main { x ^=", OPERAND),
    ("main { x [ 1 ] +=", OPERAND),
    ("main { x += 1", OPERATORS + " ;"),
    ("main { x += y", OPERATORS + " ; ["),
    ("main { x += !", OPERAND),
    ("main { x += ! y", OPERATORS + " ; ["),
    ("main { x += ! 1", OPERATORS + " ;"),
    ("main { x += (", OPERAND),
    ("main { x += ( 1", OPERATORS + " )"),
    ("main { x += ( y", OPERATORS + " ) ["),
    ("main { x += ( 1 )", OPERATORS + " ;"),
    ("main { x += y [", OPERAND),
    ("main { x += y [ 1", OPERATORS + " ]"),
    ("main { x += y [ 1 ]", OPERATORS + " ;"),
    ("main { x += ( y [ 1 ]", OPERATORS + " )"),
    ("main { x += y [ ( 1 )", OPERATORS + " ]"),
    ("main { x += 1 ;", STATEMENT),
    ("main { x <=>", "name"),
    ("main { x <=> y", "[ ;"),
    ("main { x <=> y [", OPERAND),
    ("main { x <=> y [ 1 ]", ";"),
    ("main { x [ 1 ] <=>", "name"),
    ("main { if", OPERAND),
    ("main { if 1", OPERATORS + " {"),
    ("main { if y", OPERATORS + " { ["),
    ("main { if 1 {", STATEMENT),
    ("main { if 1 { }", "else"),
    ("main { if 1 { } else", "{"),
    ("main { if 1 { } else {", STATEMENT),
    ("main { if 1 { } else { }", "fi"),
    ("main { if 1 { } else { } fi", OPERAND),
    ("main { if 1 { } else { } fi 1", OPERATORS + " ;"),
    ("main { if 1 { } else { } fi 1 ;", STATEMENT),
    ("main { from", OPERAND),
    ("main { from 1", OPERATORS + " do"),
    ("main { from 1 do", "{"),
    ("main { from 1 do {", STATEMENT),
    ("main { from 1 do { }", "loop"),
    ("main { from 1 do { } loop", "{"),
    ("main { from 1 do { } loop {", STATEMENT),
    ("main { from 1 do { } loop { }", "until"),
    ("main { from 1 do { } loop { } until", OPERAND),
    ("main { from 1 do { } loop { } until 1", OPERATORS + " ;"),
    ("main { from 1 do { } loop { } until 1 ;", STATEMENT),
    ("main { call", "name"),
    ("main { uncall", "name"),
    ("main { call f", "("),
    ("main { uncall f", "("),
    ("main { call f (", "name )"),
    ("main { call f ( a", ", )"),
    ("main { call f ( a ,", "name"),
    ("main { call f ( a , b", ", )"),
    ("main { call f ( )", ";"),
    ("main { uncall f ( a )", ";"),
    ("main { call f ( ) ;", STATEMENT),
    ("main { local", "name"),
    ("main { local x", "="),
    ("main { local x =", OPERAND),
    ("main { local x = 1", OPERATORS + " {"),
    ("main { local x = 1 {", STATEMENT),
    ("main { local x = 1 { }", "delocal"),
    ("main { local x = 1 { } delocal", OPERAND),
    ("main { local x = 1 { } delocal 1", OPERATORS + " ;"),
    ("main { local x = 1 { } delocal 1 ;", STATEMENT),
    ("main { }", ""),
    ("int x ; proc f ( ) { } main { skip ; }", ""),
] + [("main { x += 1 " + sign, OPERAND) for sign in OPERATORS.split()]


class Places(unittest.TestCase):
    def test_tokens_that_can_not_stand(self):
        for ahead, can_stand in PLACES:
            for token in TOKENS:
                if token in can_stand.split():
                    continue
                text = (ahead + " " + token).lstrip()
                with self.subTest(text):
                    place = len(text) - len(token)
                    self.assertEqual(asked(text), misplaced(place))
                    # What follows it is not come to.
                    self.assertEqual(asked(text + " main { } @ " + "a" * 32), misplaced(place))

    def test_tokens_that_can_stand(self):
        for ahead, can_stand in PLACES:
            for token in can_stand.split():
                text = ahead + " " + token
                with self.subTest(text):
                    if text.startswith("main") and text.count("{") == text.count("}"):
                        # main ends here, so the text may too; its names may still break a rule.
                        self.assertFalse(-1000000 < asked(text)[0] < 0)
                    else:
                        self.assertEqual(asked(text), misplaced(len(text)))

    def test_a_text_that_ends_too_early(self):
        for ahead, can_stand in PLACES:
            for behind in ["", " ", "\n\t", " # }", "# }\n"]:
                if can_stand != "":
                    with self.subTest(ahead + behind):
                        self.assertEqual(asked(ahead + behind), misplaced(len(ahead + behind)))

    def test_a_token_that_is_too_long_wherever_it_stands(self):
        for ahead, can_stand in PLACES:
            for token in ["a" * 32, "4294967296"]:
                with self.subTest(ahead=ahead, token=token):
                    self.assertEqual(asked(ahead + " " + token), OVER_LIMIT)

    def test_behind_main(self):
        for behind in ["main { }", "proc f() { }", "int x;", ";", "}", "skip;"]:
            with self.subTest(behind):
                self.assertEqual(asked("main { } " + behind), misplaced(9))
        self.assertEqual(asked("main { } \n# behind\n "), [0])


def grouped(text):
    """An expression with ( ) round each operation, as the parser has grouped it."""
    parser = Parser(as_bytes(text))
    kept = []
    for token in parser.read_expression():
        if token.kind == "number":
            kept.append(str(token.value))
        elif token.kind == "name":
            kept.append(token.value)
        elif token.kind == "row":
            kept.append(token.value + "[" + kept.pop() + "]")
        elif token.kind == "!":
            kept.append("!" + kept.pop())
        else:
            right = kept.pop()
            left = kept.pop()
            kept.append("(" + left + token.kind.replace("rest", "%") + right + ")")
    return kept


LEVELS = [["|"], ["^"], ["&"], ["=", "!=", "<=", "<"], ["+", "-"], ["*", "/", "%"]]


def expected(operands, signs):
    """The same, made by parting at the last of the operators that bind least."""
    for level in LEVELS:
        for place in reversed(range(len(signs))):
            if signs[place] in level:
                left = expected(operands[:place + 1], signs[:place])
                right = expected(operands[place + 1:], signs[place + 1:])
                return "(" + left + signs[place] + right + ")"
    return operands[0]


class Grouping(unittest.TestCase):
    def test_from_the_left(self):
        for sign in OPERATORS.split():
            with self.subTest(sign):
                self.assertEqual(grouped("a%sb%sc" % (sign, sign)), ["((a%sb)%sc)" % (sign, sign)])
        self.assertEqual(grouped("a-b+c-d"), ["(((a-b)+c)-d)"])
        self.assertEqual(grouped("a*b/c%d"), ["(((a*b)/c)%d)"])
        self.assertEqual(grouped("a=b<c<=d!=e"), ["((((a=b)<c)<=d)!=e)"])

    def test_by_strength(self):
        self.assertEqual(grouped("a|b^c&d=e+f*g"), ["(a|(b^(c&(d=(e+(f*g))))))"])
        self.assertEqual(grouped("a*b+c=d&e^f|g"), ["((((((a*b)+c)=d)&e)^f)|g)"])
        self.assertEqual(grouped("a|b*c&d"), ["(a|((b*c)&d))"])

    def test_three_operators_of_any_kind(self):
        for signs in itertools.product(OPERATORS.split(), repeat=3):
            text = "a%sb%sc%sd" % signs
            with self.subTest(text):
                self.assertEqual(grouped(text), [expected(["a", "b", "c", "d"], signs)])

    def test_operands(self):
        self.assertEqual(grouped("!a+b"), ["(!a+b)"])
        self.assertEqual(grouped("!!r[a+b*c]*(d|2)"), ["(!!r[(a+(b*c))]*(d|2))"])
        self.assertEqual(grouped("a-(b-c)"), ["(a-(b-c))"])


if __name__ == "__main__":
    unittest.main()
