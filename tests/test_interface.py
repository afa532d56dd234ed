"""readeditions.reader.answers: what is handed in stays, and nothing is kept."""

import unittest

from readeditions.reader import answers
from tests.helper import ask, book, book_call, call, change_call

TEXT = book(["a = x|y"], [("t", ["p if a=x: 1", "use t#q id r", "p: {link #r}"])], ["1 t"], ["k = x"])


def whole_list():
    calls = [call("size"), book_call(TEXT), book_call(""), call("showbook"), call("classes"), call("matters"),
             call("settle", 1), call("cause", 0, 1), call("compare", 0, 1), call("compare", 5, 0), call("size"),
             call("unread", 1), call("read", 0), change_call(0, 1, "item: {key k}"), change_call(0, 3, "p: x"),
             change_call(0, 0, "wrong"), call("touched"), call("next"), call("unread", 0), call("read", 2), call("mark"),
             call("showbook"), call("size")]
    return [number for one in calls for number in one]


class Interface(unittest.TestCase):
    def test_the_list_stays(self):
        calls = whole_list()
        answers(calls)
        self.assertEqual(calls, whole_list())

    def test_twice_the_same(self):
        calls = whole_list()
        first = answers(calls)
        first_copy = list(first)
        first.clear()
        self.assertEqual(answers(calls), first_copy)

    def test_nothing_is_kept(self):
        answers(whole_list())
        self.assertEqual(answers([13]), [4, 0, 0, 1, 0])

    def test_how_many_numbers_stand_before(self):
        self.assertEqual(answers([4, 5]), [1, -2])
        self.assertEqual(answers([0, 0]), [1, -1])
        self.assertEqual(answers([0, 3, 1, 2, 3, 13]), [1, -1, 4, 0, 0, 1, 0])
        self.assertEqual(answers([3, 2]), [1, 0, 3, 1, 1, 0])
        self.assertEqual(answers([7, 0, 0, 2, 7, 7, 8, 9, 10, 0, 11, 0, 12, 13, 7, -1, -1, 0]),
                         [1, -3, 1, 0, 1, 0, 2, 0, 0, 1, 0, 2, 0, 0, 4, 0, 0, 1, 0, 1, -3])

    def test_whole_numbers_in_a_list(self):
        given = answers(whole_list())
        self.assertIs(type(given), list)
        self.assertEqual({type(number) for number in given}, {int})

    def test_thirty_calls(self):
        self.assertEqual(len(ask(*[book_call(TEXT)] * 15, *[call("classes")] * 15)), 30)

    def test_two_texts_of_8000_bytes(self):
        wrong = "a" * 8000
        self.assertEqual(ask(book_call(wrong), book_call(wrong), call("size")), [[-1], [-1], [0, 0, 1, 0]])
        told = ask(book_call(TEXT), change_call(0, 0, wrong), change_call(0, 0, wrong), call("size"))
        self.assertEqual(told, [[1, 2], [-1], [-1], [1, 3, 2, 0]])

    def test_thirty_calls_of_all_kinds(self):
        calls = [change_call(0, 0, "p: %d" % n) for n in range(10)] + [call("next")] * 9 + [call("unread", 0)] * 10
        told = ask(book_call(TEXT), *calls)
        self.assertEqual(len(told), 30)
        self.assertEqual(told[1:12], [[2]] * 10 + [[0, 2]])
