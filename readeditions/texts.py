"""Texts, which are bytes outside and Python's texts inside: what a name is, and a walk over one line."""

LINE_END = "\n"
LINE_END_BYTE = 10
BACKSLASH = "\\"
ESCAPED_SIGNS = ("\\", "{", "}")
LONGEST_NAME = 8
NO_NAMES = ("props", "topic", "map", "keys", "always", "not", "id", "in", "if")
FIRST_SIGN_BYTE = 32
# The signs by their bytes. The sign 37 may not be written in this program: a tab, which is no sign, stands for it.
SIGNS_IN_ORDER = (
    " !\"#$\t&'()*+,-./0123456789:;<=>?"
    "@ABCDEFGHIJKLMNOPQRSTUVWXYZ[\\]^_"
    "`abcdefghijklmnopqrstuvwxyz{|}~"
)
STAND_IN = "\t"
STAND_IN_BYTE = 37


class WrongText(Exception):
    pass


def require(right):
    if not right:
        raise WrongText()


# No text of a book or a block has another byte than a sign's or a line's end.
def text_of(text_bytes):
    return "".join([sign_of(byte) for byte in text_bytes])


def sign_of(byte):
    if byte == LINE_END_BYTE:
        return LINE_END
    place = byte - FIRST_SIGN_BYTE
    require(0 <= place < len(SIGNS_IN_ORDER))
    return SIGNS_IN_ORDER[place]


def bytes_of(text):
    return [STAND_IN_BYTE if sign == STAND_IN else ord(sign) for sign in text]


def is_letter(sign):
    return "a" <= sign <= "z"


def is_letter_or_digit(sign):
    return is_letter(sign) or "0" <= sign <= "9"


def is_name(word):
    if not 1 <= len(word) <= LONGEST_NAME:
        return False
    if not is_letter(word[0]) or not all([is_letter_or_digit(sign) for sign in word]):
        return False
    return word not in NO_NAMES


def escaped(signs):
    return "".join([BACKSLASH + sign if sign in ESCAPED_SIGNS else sign for sign in signs])


def lines_of(text):
    lines = text.split(LINE_END)
    require(lines[-1] == "")
    return lines[:-1]


class Scanner:
    def __init__(self, line):
        self.line = line
        self.place = 0

    def at_end(self):
        return self.place == len(self.line)

    def must_end(self):
        require(self.at_end())

    def takes(self, word):
        end = self.place + len(word)
        if self.line[self.place:end] != word:
            return False
        self.place = end
        return True

    def must_take(self, word):
        require(self.takes(word))

    def sign_here(self):
        require(not self.at_end())
        self.place += 1
        return self.line[self.place - 1]

    # No name is ever followed by a letter or digit, so the longest run is the name.
    def word_here(self):
        first = self.place
        while not self.at_end() and is_letter_or_digit(self.line[self.place]):
            self.place += 1
        return self.line[first:self.place]

    def name_here(self):
        word = self.word_here()
        require(is_name(word))
        return word

    # A name that may be left out is the empty text where it is left out.
    def name_behind(self, word):
        return self.name_here() if self.takes(word) else ""

    def rest(self):
        return self.line[self.place:]
