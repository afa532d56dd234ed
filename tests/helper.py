"""Calls written as the interface wants them, and answers taken apart again."""

from readeditions.reader import answers

WORDS = {"showbook": 1, "classes": 2, "matters": 3, "settle": 4, "cause": 5, "compare": 6, "touched": 8, "mark": 9,
         "read": 10, "unread": 11, "next": 12, "size": 13}


def coded(text):
    return list(text.encode("latin-1"))


def ended(lines):
    return "".join(line + "\n" for line in lines)


def book_call(text):
    return [0, len(text)] + coded(text)


def change_call(i, j, text):
    return [7, i, j, len(text)] + coded(text)


def call(word, *numbers):
    return [WORDS[word]] + list(numbers)


def ask(*calls):
    """The answers, one list for each call."""
    given = answers([number for one in calls for number in one])
    told = []
    place = 0
    while place < len(given):
        told.append(given[place + 1:place + 1 + given[place]])
        place += 1 + given[place]
    assert place == len(given)
    return told


def ask_book(text, word, *numbers):
    """What a call answers behind a book that is taken."""
    told = ask(book_call(text), call(word, *numbers))
    assert told[0] != [-1], text
    return told[1]


def texts_in(numbers):
    """The texts of a list of texts, and nothing may stand behind them."""
    texts = []
    place = 1
    for _ in range(numbers[0]):
        length = numbers[place]
        texts.append(bytes(numbers[place + 1:place + 1 + length]).decode("latin-1"))
        place += 1 + length
    assert place == len(numbers)
    return texts


def text_told(text):
    return [len(text)] + coded(text)


def pairs_in(numbers):
    """Pairs of texts: told values (a property's name and a value), or contents (a topic's name and a block's text)."""
    texts = texts_in([2 * numbers[0]] + numbers[1:])
    return list(zip(texts[0::2], texts[1::2]))


def settle(text, k):
    return pairs_in(ask_book(text, "settle", k))


def cause(text, k, l):
    return pairs_in(ask_book(text, "cause", k, l))


def common(text, k, l):
    return texts_in(ask_book(text, "compare", k, l)[2:])


def document(text, k=0):
    """An edition's lines: a document has all of its lines in common with itself."""
    return common(text, k, k)


def classes(text):
    told = ask_book(text, "classes")
    parted = []
    place = 1
    for _ in range(told[0]):
        parted.append(told[place + 1:place + 1 + told[place]])
        place += 1 + told[place]
    assert place == len(told)
    return parted


def matters(text):
    told = ask_book(text, "matters")
    assert told[0] == len(told) - 1
    return told[1:]


def book(props=(), topics=(), rows=(), keys=()):
    """A book's text; topics are pairs of a name and lines."""
    lines = ["props"] + list(props)
    for name, blocks in topics:
        lines += ["topic " + name] + list(blocks)
    return ended(lines + ["map"] + list(rows) + ["keys"] + list(keys))
