"""compare: how many lines, and which ones are in common."""

import unittest
from functools import lru_cache
from random import Random

from readeditions.common import lines_in_common
from tests.helper import ask, book, book_call, call, common


@lru_cache(maxsize=None)
def as_told(x, y):
    """The longest lines in common, word for word as the document tells them."""
    if not x or not y:
        return ()
    a = as_told(x[1:], y)
    b = as_told(x, y[1:])
    c = b if len(b) > len(a) else a
    if x[0] == y[0]:
        d = x[:1] + as_told(x[1:], y[1:])
        if len(d) > len(c):
            return d
    return c


def two(first, second):
    """A book whose editions 0 and 1 have these lines behind the section's."""
    blocks = ["p if os=lin: " + line for line in first] + ["p if os=win: " + line for line in second]
    return book(["os = lin|win"], [("t", blocks)], ["1 t"])


class InCommon(unittest.TestCase):
    def test_against_the_words(self):
        random = Random(7)
        for _ in range(3000):
            letters = "abcde"[:random.randint(1, 5)]
            x = tuple(random.choice(letters) for _ in range(random.randint(0, 9)))
            y = tuple(random.choice(letters) for _ in range(random.randint(0, 9)))
            self.assertEqual(lines_in_common(x, y), list(as_told(x, y)))

    def test_none(self):
        self.assertEqual(lines_in_common((), ()), [])
        self.assertEqual(lines_in_common((1,), ()), [])
        self.assertEqual(lines_in_common((), (1,)), [])
        self.assertEqual(lines_in_common((1,), (2,)), [])


class Compare(unittest.TestCase):
    def test_which_of_several(self):
        self.assertEqual(common(two("ab", "ba"), 0, 1), ["1 t", "p: b"])
        self.assertEqual(common(two("ab", "ba"), 1, 0), ["1 t", "p: a"])
        self.assertEqual(common(two("abc", "cab"), 0, 1), ["1 t", "p: a", "p: b"])
        self.assertEqual(common(two("abcd", "badc"), 0, 1), ["1 t", "p: b", "p: d"])
        self.assertEqual(common(two("abcd", "badc"), 1, 0), ["1 t", "p: a", "p: c"])

    def test_how_many_lines(self):
        told = ask(book_call(two("abc", "c")), call("compare", 0, 1), call("compare", 1, 0))
        self.assertEqual(told[1][:3], [4, 2, 2])
        self.assertEqual(told[2][:3], [2, 4, 2])

    def test_an_edition_without_lines(self):
        text = book(["os = lin|win"], [("t", ["p: x"])], ["1 t if os=lin"])
        self.assertEqual(ask(book_call(text), call("compare", 0, 1), call("compare", 1, 1))[1:], [[2, 0, 0], [0, 0, 0]])

    def test_nothing_in_common(self):
        text = book(["os = lin|win"], [("t", []), ("u", [])], ["1 t if os=lin", "1 u if os=win"])
        self.assertEqual(ask(book_call(text), call("compare", 0, 1))[1], [1, 1, 0])

    def test_an_empty_line_of_a_block(self):
        self.assertEqual(common(two(["", "x"], [""]), 0, 1), ["1 t", "p: "])

    def test_lines_with_links_are_compared_as_they_are_shown(self):
        text = book(["os = lin|win"], [("t", ["p: {link u}", "p: {link #a}", "p id a: x"]), ("u", [])],
                    ["1 u if os=lin", "1 t", "1 u"])
        self.assertEqual(common(text, 0, 1), ["1 t", "p id a: x", "1 u"])

    def test_documents_of_110_lines(self):
        text = book(["os = lin|win"], [("t", ["p: {link #a}"] * 9 + ["p id a: x"])], ["1 t"] * 9 + ["1 t if os=lin"])
        told = ask(book_call(text), call("compare", 0, 1))[1]
        self.assertEqual(told[:3], [110, 99, 99])
