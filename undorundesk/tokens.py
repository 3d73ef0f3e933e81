"""Takes a text apart into tokens, one at a time, each as long as it can be."""

from undorundesk.refusals import OverLimit

LONGEST_WORD = 31
FIRST_NUMBER_TOO_LARGE = 4294967296

SMALL_LETTERS = "abcdefghijklmnopqrstuvwxyz"
LARGE_LETTERS = "ABCDEFGHIJKLMNOPQRSTUVWXYZ"
DIGITS = "0123456789"

KEYWORDS = (
    "int", "proc", "main", "if", "else", "fi", "from", "do", "loop", "until",
    "call", "uncall", "local", "delocal", "skip",
)

BLANKS = (9, 10, 13, 32)
LINE_END = 10
REMARK = 35
LESS = 60
EQUALS = 61
GREATER = 62
UNDERSCORE = 95

# Stands for the byte behind the text's last one; no byte is so large.
NO_BYTE = 256

# The sign of byte 37 may not stand in a text of this program, so it goes by the name "rest".
SIGNS = {
    33: "!", 37: "rest", 38: "&", 40: "(", 41: ")", 42: "*", 43: "+", 44: ",", 45: "-", 47: "/",
    59: ";", 60: "<", 61: "=", 91: "[", 93: "]", 94: "^", 123: "{", 124: "|", 125: "}",
}
SIGNS_WITH_EQUALS = {33: "!=", 43: "+=", 45: "-=", 60: "<=", 94: "^="}


class Token:
    """A token, the place of its first byte, and its bytes as they stand in the text.

    The kind is "name", "number", "end" (the text's end), "other" (a byte that begins no token),
    or else the keyword or the sign itself. The value is a name's text or a number's worth.
    """

    def __init__(self, kind, value, place, spelling):
        self.kind = kind
        self.value = value
        self.place = place
        self.spelling = spelling


def is_letter(byte):
    return 97 <= byte <= 122 or 65 <= byte <= 90


def is_digit(byte):
    return 48 <= byte <= 57


def is_within_word(byte):
    return is_letter(byte) or is_digit(byte) or byte == UNDERSCORE


def letter_of(byte):
    """The text of a byte that stands within a word."""
    if byte >= 97:
        return SMALL_LETTERS[byte - 97]
    if byte == UNDERSCORE:
        return "_"
    if byte >= 65:
        return LARGE_LETTERS[byte - 65]
    return DIGITS[byte - 48]


class Scanner:
    """Goes through a text once; it refuses a token that is too long as soon as it is come to."""

    def __init__(self, text):
        self.text = text
        self.position = 0

    def scan(self):
        """The next token; behind the last one, always the end."""
        self.pass_blanks()
        byte = self.byte_at(self.position)
        if byte == NO_BYTE:
            return Token("end", "", self.position, [])
        if is_letter(byte):
            return self.scan_word()
        if is_digit(byte):
            return self.scan_number()
        return self.scan_sign(byte)

    def byte_at(self, place):
        return self.text[place] if place < len(self.text) else NO_BYTE

    def pass_blanks(self):
        """Goes on to where the next token begins, over blanks and remarks."""
        while True:
            byte = self.byte_at(self.position)
            if byte in BLANKS:
                self.position += 1
            elif byte == REMARK:
                self.pass_remark()
            else:
                return

    def pass_remark(self):
        while self.byte_at(self.position) not in (LINE_END, NO_BYTE):
            self.position += 1

    def scan_word(self):
        place = self.position
        while is_within_word(self.byte_at(self.position)):
            self.position += 1
        if self.position - place > LONGEST_WORD:
            raise OverLimit()
        spelling = self.text[place:self.position]
        word = "".join([letter_of(byte) for byte in spelling])
        return Token(word if word in KEYWORDS else "name", word, place, spelling)

    def scan_number(self):
        place = self.position
        value = 0
        byte = self.byte_at(place)
        while is_digit(byte):
            # Held down, as a number of thousands of digits would be slow to reckon with.
            value = min(value * 10 + byte - 48, FIRST_NUMBER_TOO_LARGE)
            self.position += 1
            byte = self.byte_at(self.position)
        if value == FIRST_NUMBER_TOO_LARGE:
            raise OverLimit()
        return Token("number", value, place, self.text[place:self.position])

    def scan_sign(self, first):
        place = self.position
        kind = SIGNS.get(first, "other")
        length = 1
        if first in SIGNS_WITH_EQUALS and self.byte_at(place + 1) == EQUALS:
            kind = SIGNS_WITH_EQUALS[first]
            length = 2
            if first == LESS and self.byte_at(place + 2) == GREATER:
                kind = "<=>"
                length = 3
        self.position += length
        return Token(kind, "", place, self.text[place:self.position])
