"""Texts as tuples of bytes: what a name and a sign is, and a walk over one line."""

LINE_END = 10
BACKSLASH = 92
ESCAPED_SIGNS = (92, 123, 125)
LONGEST_NAME = 8
NO_NAMES = ("props", "topic", "map", "keys", "always", "not", "id", "in", "if")


class WrongText(Exception):
    pass


def require(right):
    if not right:
        raise WrongText()


def coded(word):
    return tuple([ord(sign) for sign in word])


def is_letter(byte):
    return 97 <= byte <= 122


def is_letter_or_digit(byte):
    return is_letter(byte) or 48 <= byte <= 57


def is_sign(byte):
    return 32 <= byte <= 126


def is_name(word):
    if not 1 <= len(word) <= LONGEST_NAME:
        return False
    if not is_letter(word[0]) or not all([is_letter_or_digit(byte) for byte in word]):
        return False
    return word not in [coded(no_name) for no_name in NO_NAMES]


def escaped(signs):
    shown = []
    for sign in signs:
        if sign in ESCAPED_SIGNS:
            shown.append(BACKSLASH)
        shown.append(sign)
    return tuple(shown)


def lines_of(text):
    lines = []
    first = 0
    for place, byte in enumerate(text):
        if byte == LINE_END:
            lines.append(text[first:place])
            first = place + 1
    require(first == len(text))
    return lines


class Scanner:
    def __init__(self, line):
        self.line = line
        self.place = 0

    def at_end(self):
        return self.place == len(self.line)

    def must_end(self):
        require(self.at_end())

    def takes(self, word):
        end = self.place + len(word)
        if self.line[self.place:end] != coded(word):
            return False
        self.place = end
        return True

    def must_take(self, word):
        require(self.takes(word))

    def byte_here(self):
        require(not self.at_end())
        self.place += 1
        return self.line[self.place - 1]

    # No name is ever followed by a letter or digit, so the longest run is the name.
    def word_here(self):
        first = self.place
        while not self.at_end() and is_letter_or_digit(self.line[self.place]):
            self.place += 1
        return self.line[first:self.place]

    def name_here(self):
        word = self.word_here()
        require(is_name(word))
        return word

    # A name that may be left out is the empty text where it is left out.
    def name_behind(self, word):
        return self.name_here() if self.takes(word) else ()

    def rest(self):
        first = self.place
        self.place = len(self.line)
        return self.line[first:]
