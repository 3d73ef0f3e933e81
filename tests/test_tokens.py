"""Blanks, remarks and tokens, and which words are no names."""

import unittest

from tests.asking import asked, broken, marked, misplaced

KEYWORDS = ["int", "proc", "main", "if", "else", "fi", "from", "do", "loop", "until",
            "call", "uncall", "local", "delocal", "skip"]


class Blanks(unittest.TestCase):
    def test_each_kind_between_tokens(self):
        for blank in ["\t", "\n", "\r", " ", " \t\r\n ", "#\n", "# main { } \n", "#a#b\r\tc\n"]:
            with self.subTest(blank):
                tokens = ["", "int", "x", ",", "y", "[", "2", "]", ";", "main", "{", "x", "+=", "1", ";", "}", ""]
                self.assertEqual(asked(blank.join(tokens)), [3])

    def test_no_other_byte_is_a_blank(self):
        for byte in [0, 1, 8, 11, 12, 14, 31, 127, 133, 160]:
            with self.subTest(byte):
                self.assertEqual(asked("main " + chr(byte) + "{ }"), misplaced(5))

    def test_none_are_needed_where_tokens_stay_apart(self):
        self.assertEqual(asked("int x,y[2];proc f(a,b[]){}main{x+=!y[1]*(2-1);call f(x,y);}"), [3])

    def test_a_blank_or_a_remark_parts_a_token(self):
        self.assertEqual(asked("ma in { }"), misplaced(0))
        self.assertEqual(asked("int x; main { x + = 1; }"), misplaced(16))
        self.assertEqual(asked("int x; main { x +#\n= 1; }"), misplaced(16))
        self.assertEqual(asked("int x[1 2]; main { }"), misplaced(8))


class Remarks(unittest.TestCase):
    def test_at_the_end_of_the_text(self):
        for remark in ["#", "# }", "#\r", "# a\n#", "# a\n", "#####"]:
            with self.subTest(remark):
                self.assertEqual(asked("main { }" + remark), [0])

    def test_goes_to_the_line_feed_alone(self):
        self.assertEqual(asked("main { # \r } "), misplaced(13))
        self.assertEqual(asked("main { # \n }"), [0])

    def test_any_byte_may_stand_in_one(self):
        every = "".join(chr(byte) for byte in range(256) if byte != 10)
        self.assertEqual(asked("main { #" + every + "\n }"), [0])
        self.assertEqual(asked("main { } #" + "a" * 40 + " 4294967296 @ \xff"), [0])

    def test_takes_the_rest_of_what_would_stand(self):
        self.assertEqual(asked("#main { }"), misplaced(9))


class OtherBytes(unittest.TestCase):
    def test_each_is_told_at_its_place(self):
        known = "\t\n\r #{}()[],;=<+-*/%&|^!"
        for byte in range(256):
            sign = chr(byte)
            if sign in known or (byte < 128 and sign.isalnum()):
                continue
            with self.subTest(byte):
                self.assertEqual(asked(sign), misplaced(0))
                self.assertEqual(asked("main { " + sign + " }"), misplaced(7))
                self.assertEqual(asked("int x; main { x += 1" + sign), misplaced(20))
                self.assertEqual(asked("main { }" + sign), misplaced(8))

    def test_an_underscore_begins_no_word(self):
        self.assertEqual(asked("int _x; main { }"), misplaced(4))
        self.assertEqual(asked("int x_, x_1; main { }"), [2])

    def test_letters_beyond_ascii_are_none(self):
        self.assertEqual(asked("int x\xe9; main { }"), misplaced(5))
        self.assertEqual(asked("int \xe9; main { }"), misplaced(4))


class AsLongAsCanBe(unittest.TestCase):
    def test_a_longer_sign_is_not_cut_short(self):
        cases = [
            ("x += y @<=> 1;", "x += y <= 1;"),
            ("x += y @+= 1;", "x += y + 1;"),
            ("x += y @-= 1;", "x += y - 1;"),
            ("x += y @^= 1;", "x += y ^ 1;"),
            ("x += @!= 1;", "x += ! 1;"),
            ("x += y <= @= 1;", "x += y <= 1;"),
            ("x += y != @= 1;", "x += y != 1;"),
            ("x @< => y;", "x <=> y;"),
            ("x @<= > y;", "x <=> y;"),
        ]
        for wrong, right in cases:
            with self.subTest(wrong):
                text, place = marked("int x, y; main { " + wrong + " }")
                self.assertEqual(asked(text), misplaced(place))
                self.assertEqual(asked("int x, y; main { " + right + " }"), [2])

    def test_signs_that_follow_one_another(self):
        for wrong in ["x +=@= 1;", "x@++=1;", "x <=>@> y;", "x <=>@= y;", "x += 1 <@< 2;", "x += 1 <=@< 2;",
                      "x += 1 <= @> 2;", "x += 1 !=@= 2;", "x += 1 @<=>2;", "x += 1 -@-1;", "x +=@-1;",
                      "x +=@> y;", "x -=@> y;", "x ^=@> y;", "x += 1 !=@> y;", "x += 1 =@= y;", "x += 1 *@= y;",
                      "x += (@=1);", "x += (1)=@=1;"]:
            with self.subTest(wrong):
                text, place = marked("int x, y; main { " + wrong + " }")
                self.assertEqual(asked(text), misplaced(place))
        for right in ["x+=!!y;", "x+=1!=!y;", "x+=1=!y;", "x+=1<!y;", "x+=1<=!y;", "x<=>y;", "x^=y^1;", "x-=y-1;"]:
            with self.subTest(right):
                self.assertEqual(asked("int x,y;main{" + right + "}"), [2])

    def test_a_sign_at_the_end_of_the_text(self):
        for sign in ["<", "<=", "!", "!=", "+", "+=", "-=", "^="]:
            with self.subTest(sign):
                self.assertEqual(asked("main { }" + sign), misplaced(8))
        for sign in ["+=", "-=", "^=", "<=>"]:
            with self.subTest(sign):
                self.assertEqual(asked("main { x" + sign), misplaced(8 + len(sign)))

    def test_words(self):
        self.assertEqual(asked("int intx, mainmain, if1, do_, Int, MAIN; main { }"), [6])
        self.assertEqual(asked("intx; main { }"), misplaced(0))
        self.assertEqual(asked("int x; main { skipskip; }"), misplaced(22))
        self.assertEqual(asked("int aZ09_z; main { aZ09_z += 1; }"), [1])

    def test_names_differ_by_every_sign(self):
        self.assertEqual(asked("int a, A, a0, a_, aa, aA, Z, z, a9; main { }"), [9])
        self.assertEqual(asked("int abc; main { abC += 1; }"), broken(16))

    def test_numbers(self):
        self.assertEqual(asked("int x[007]; main { }"), [7])
        self.assertEqual(asked("int x[12]; main { }"), [12])
        self.assertEqual(asked("int x[3a]; main { }"), misplaced(7))
        self.assertEqual(asked("int 3a; main { }"), misplaced(4))
        self.assertEqual(asked("int x[0x1]; main { }"), misplaced(7))
        self.assertEqual(asked("int x[1_0]; main { }"), misplaced(7))
        self.assertEqual(asked("int x[-1]; main { }"), misplaced(6))

    def test_a_number_beside_a_word(self):
        self.assertEqual(asked("int x; main { if 1{}else{}fi 1;from 1do{}loop{}until 1;}"), [1])


class NoNames(unittest.TestCase):
    def test_wherever_a_name_is_asked_for(self):
        places = [
            "int %s; main { }", "int x, %s; main { }", "proc %s() { } main { }", "proc f(%s[]) { } main { }",
            "proc f(a, %s) { } main { }", "main { call %s(); }", "main { uncall %s(); }",
            "main { call f(x, %s); }", "main { local %s = 1 { } delocal 1; }", "main { x <=> %s; }",
            "main { x += %s; }", "main { x[%s] += 1; }", "main { x += y + %s; }", "main { if %s { } else { } fi 1; }",
        ]
        for word in KEYWORDS:
            for text in places:
                with self.subTest(word=word, text=text):
                    self.assertEqual(asked(text % word), misplaced(text.index("%s")))

    def test_in_other_letters_they_are_names(self):
        for word in KEYWORDS:
            with self.subTest(word):
                self.assertEqual(asked("int %s; main { %s += 1; }" % (word.upper(), word.upper())), [1])


if __name__ == "__main__":
    unittest.main()
