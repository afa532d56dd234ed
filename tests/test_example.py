"""The document's own example, and a new object."""

import unittest

from tests.helper import ask, book_call, call, cause, change_call, classes, coded, common, ended, matters, settle
from tests.helper import text_told

EXAMPLE = ended(["props", "os = lin|win", "lvl = a|b", "topic t", "h1: Intro", "p if os=lin: Linux",
                 "p if os=win: Win", "p if (os=win and lvl=b): More", "map", "1 t", "keys"])


class Example(unittest.TestCase):
    def test_book(self):
        self.assertEqual(ask(book_call(EXAMPLE)), [[1, 4]])

    def test_showbook(self):
        told = ask(book_call(EXAMPLE), call("showbook"))[1]
        self.assertEqual(told, [len(EXAMPLE)] + coded(EXAMPLE))

    def test_classes(self):
        self.assertEqual(classes(EXAMPLE), [[0, 1], [2], [3]])
        self.assertEqual(ask(book_call(EXAMPLE), call("classes"))[1], [3, 2, 0, 1, 1, 2, 1, 3])

    def test_matters(self):
        self.assertEqual(matters(EXAMPLE), [0, 1])

    def test_settle(self):
        self.assertEqual(settle(EXAMPLE, 0), [("os", "lin")])
        self.assertEqual(settle(EXAMPLE, 2), [("os", "win"), ("lvl", "a")])

    def test_cause(self):
        self.assertEqual(cause(EXAMPLE, 0, 2), [("os", "win")])
        self.assertEqual(cause(EXAMPLE, 0, 3), [("os", "win"), ("lvl", "b")])

    def test_compare(self):
        told = ask(book_call(EXAMPLE), call("compare", 0, 3))[1]
        self.assertEqual(told, [3, 4, 2, 3] + coded("1 t") + [9] + coded("h1: Intro"))
        self.assertEqual(common(EXAMPLE, 0, 3), ["1 t", "h1: Intro"])

    def test_size(self):
        self.assertEqual(ask(book_call(EXAMPLE), call("size"))[1], [1, 4, 4, 0])

    def test_whole_call_by_call(self):
        told = ask(book_call(EXAMPLE), call("classes"), call("matters"), call("settle", 0), call("settle", 2),
                   call("cause", 0, 2), call("cause", 0, 3), call("compare", 0, 3), call("read", 0), call("unread", 3),
                   call("next"), change_call(0, 1, "p if os=lin: Linux 2"), call("touched"), call("unread", 0),
                   call("mark"), call("touched"), call("size"))
        self.assertEqual(told, [
            [1, 4],
            [3, 2, 0, 1, 1, 2, 1, 3],
            [2, 0, 1],
            [1] + text_told("os") + text_told("lin"),
            [2] + text_told("os") + text_told("win") + text_told("lvl") + text_told("a"),
            [1] + text_told("os") + text_told("win"),
            [2] + text_told("os") + text_told("win") + text_told("lvl") + text_told("b"),
            [3, 4, 2] + text_told("1 t") + text_told("h1: Intro"),
            [2, 2],
            [2] + text_told("t") + text_told("p: Win") + text_told("t") + text_told("p: More"),
            [3, 2],
            [2],
            [2, 0, 1],
            [1] + text_told("t") + text_told("p: Linux 2"),
            [2],
            [0],
            [1, 4, 4, 2],
        ])


class NewObject(unittest.TestCase):
    def test_showbook(self):
        self.assertEqual(ask(call("showbook")), [[15] + coded("props\nmap\nkeys\n")])

    def test_one_edition(self):
        told = ask(call("classes"), call("matters"), call("settle", 0), call("cause", 0, 0), call("compare", 0, 0),
                   call("size"))
        self.assertEqual(told, [[1, 1, 0], [0], [0], [0], [0, 0, 0], [0, 0, 1, 0]])

    def test_no_other_edition(self):
        told = ask(call("settle", 1), call("settle", -1), call("cause", 0, 1), call("compare", 1, 0))
        self.assertEqual(told, [[-2]] * 4)
