"""The document's own example, and a new object."""

import unittest

from tests.helper import ask, book_call, call, cause, classes, coded, common, ended, matters, settle

EXAMPLE = ended(["props", "os = lin|win", "lvl = a|b", "topic t", "h1: Intro", "p if os=lin: Linux",
                 "p if os=win: Win", "p if (os=win and lvl=b): More", "map", "1 t", "keys"])


class Example(unittest.TestCase):
    def test_book(self):
        self.assertEqual(ask(book_call(EXAMPLE)), [[1, 4]])

    def test_showbook(self):
        told = ask(book_call(EXAMPLE), call("showbook"))[1]
        self.assertEqual(told, [len(EXAMPLE)] + coded(EXAMPLE))

    def test_classes(self):
        self.assertEqual(classes(EXAMPLE), [[0, 1], [2], [3]])
        self.assertEqual(ask(book_call(EXAMPLE), call("classes"))[1], [3, 2, 0, 1, 1, 2, 1, 3])

    def test_matters(self):
        self.assertEqual(matters(EXAMPLE), [0, 1])

    def test_settle(self):
        self.assertEqual(settle(EXAMPLE, 0), [("os", "lin")])
        self.assertEqual(settle(EXAMPLE, 2), [("os", "win"), ("lvl", "a")])

    def test_cause(self):
        self.assertEqual(cause(EXAMPLE, 0, 2), [("os", "win")])
        self.assertEqual(cause(EXAMPLE, 0, 3), [("os", "win"), ("lvl", "b")])

    def test_compare(self):
        told = ask(book_call(EXAMPLE), call("compare", 0, 3))[1]
        self.assertEqual(told, [3, 4, 2, 3] + coded("1 t") + [9] + coded("h1: Intro"))
        self.assertEqual(common(EXAMPLE, 0, 3), ["1 t", "h1: Intro"])

    def test_size(self):
        self.assertEqual(ask(book_call(EXAMPLE), call("size"))[1], [1, 4, 4, 0])

    def test_all_in_one_list(self):
        told = ask(book_call(EXAMPLE), call("classes"), call("matters"), call("settle", 0), call("compare", 0, 3),
                   call("size"))
        self.assertEqual(told[:3], [[1, 4], [3, 2, 0, 1, 1, 2, 1, 3], [2, 0, 1]])
        self.assertEqual(told[3], [1, 2] + coded("os") + [3] + coded("lin"))
        self.assertEqual(told[5], [1, 4, 4, 0])


class NewObject(unittest.TestCase):
    def test_showbook(self):
        self.assertEqual(ask(call("showbook")), [[15] + coded("props\nmap\nkeys\n")])

    def test_one_edition(self):
        told = ask(call("classes"), call("matters"), call("settle", 0), call("cause", 0, 0), call("compare", 0, 0),
                   call("size"))
        self.assertEqual(told, [[1, 1, 0], [0], [0], [0], [0, 0, 0], [0, 0, 1, 0]])

    def test_no_other_edition(self):
        told = ask(call("settle", 1), call("settle", -1), call("cause", 0, 1), call("compare", 1, 0))
        self.assertEqual(told, [[-2]] * 4)
