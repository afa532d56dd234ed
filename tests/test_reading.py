"""read, unread, next, size: what a reader has seen, and what is new in an edition."""

import unittest

from tests.helper import ask, book, book_call, call, change_call, coded, pairs_in

OS = ["os = lin|win"]
FAR = (-1, -2, -3, 2, 3, 200, 10 ** 18, -10 ** 18)


def unread(text, k=0):
    """All the contents that an edition shows."""
    told = ask(book_call(text), call("unread", k))
    assert len(told[0]) == 2
    return pairs_in(told[1])


class Contents(unittest.TestCase):
    def test_in_the_documents_order(self):
        text = book(OS, [("t", ["p: 1", "h2 if os=win: 2", "item: 3"]), ("u", ["p: 4"])],
                    ["2 u", "1 t", "1 u", "1 t if os=win"])
        self.assertEqual(unread(text, 0), [("u", "p: 4"), ("t", "p: 1"), ("t", "item: 3")])
        self.assertEqual(unread(text, 1), [("u", "p: 4"), ("t", "p: 1"), ("t", "h2: 2"), ("t", "item: 3")])

    def test_each_once(self):
        text = book([], [("t", ["p: a", "p: b", "p: a", "p: b"])], ["1 t", "2 t"])
        self.assertEqual(unread(text), [("t", "p: a"), ("t", "p: b")])

    def test_ids_and_conditions_make_no_difference(self):
        text = book(OS, [("t", ["p id x if os=lin: a", "p: a", "p id y: a", "p if not(os=win): a"])], ["1 t"])
        self.assertEqual(unread(text, 0), [("t", "p: a")])
        told = ask(book_call(text), call("read", 0), call("unread", 1), call("read", 1))
        self.assertEqual(told[1:], [[1, 1], [0], [0, 1]])

    def test_topics_make_a_difference(self):
        text = book([], [("t", ["p: a"]), ("u", ["p: a"])], ["1 u", "1 t"])
        self.assertEqual(unread(text), [("u", "p: a"), ("t", "p: a")])

    def test_kinds_and_lines_make_a_difference(self):
        lines = ["h1: a", "h2: a", "h3: a", "h4: a", "p: a", "item: a", "p: a ", "p: ", "p: {key a}", "p: {link #a}"]
        self.assertEqual(unread(book([], [("t", lines)], ["1 t"])), [("t", line) for line in lines])

    def test_what_a_use_stands_for(self):
        text = book([], [("t", ["use u#a id x"]), ("u", ["use v#b id a"]), ("v", ["h3 id b: B"])], ["1 t"])
        self.assertEqual(unread(text), [("v", "h3: B")])

    def test_a_block_and_a_use_of_it_are_one(self):
        text = book([], [("t", ["use t#b", "p: x", "p id b: B"]), ("u", ["p id b: B", "use t#b"])], ["1 t", "1 u"])
        self.assertEqual(unread(text), [("t", "p: B"), ("t", "p: x"), ("u", "p: B")])

    def test_none_and_rings_show_none(self):
        text = book(OS, [("t", ["use t#no", "use t#r id r", "use t#a id b", "p id a if os=win: x"])], ["1 t"])
        self.assertEqual(unread(text, 0), [])
        self.assertEqual(unread(text, 1), [("t", "p: x")])
        told = ask(book_call(text), call("read", 0), call("read", 1), call("size"))
        self.assertEqual(told[1:], [[0, 0], [1, 1], [1, 4, 2, 1]])

    def test_only_what_stands_in_the_map(self):
        text = book(OS, [("t", ["p: 1"]), ("u", ["p: 2"]), ("v", ["p: 3"])], ["1 t if os=win", "1 v"])
        self.assertEqual(unread(text, 0), [("v", "p: 3")])
        self.assertEqual(unread(text, 1), [("t", "p: 1"), ("v", "p: 3")])
        self.assertEqual(unread(book([], [("t", ["p: 1"])])), [])

    def test_keys_and_links_as_they_are_written(self):
        line = "p id q: \\{{key k}\\}{link t}{link #q}{link u#z}{key no}100%\\\\~"
        text = book([], [("t", [line]), ("u", [])], ["1 t in s", "1 t"], ["k = {x}", "k in s -> t"])
        self.assertEqual(unread(text), [("t", line.replace(" id q", ""))])

    def test_the_numbers(self):
        told = ask(book_call(book([], [("t", ["p id q: a%"]), ("u", ["h1: "])], ["1 t", "1 u"])), call("unread", 0))
        self.assertEqual(told[1], [2, 1] + coded("t") + [5] + coded("p: a%") + [1] + coded("u") + [4] + coded("h1: "))

    def test_a_hundred_contents(self):
        topics = [("t%d" % n, ["p: {key k%d}" % m for m in range(10)]) for n in range(8)]
        told = ask(book_call(book([], topics, ["1 t%d" % n for n in range(8)])), call("read", 0), call("next"))
        self.assertEqual(told[1:], [[80, 80], [0, 0]])


class Read(unittest.TestCase):
    TEXT = book(OS, [("t", ["p: both", "p if os=lin: lin", "p if os=win: win", "h1 if os=win: win"])], ["1 t"])

    def test_how_many(self):
        told = ask(book_call(self.TEXT), call("read", 0), call("read", 0), call("read", 1), call("read", 1),
                   call("read", 0))
        self.assertEqual(told[1:], [[2, 2], [0, 2], [2, 4], [0, 4], [0, 4]])

    def test_unread_behind_read(self):
        told = ask(book_call(self.TEXT), call("read", 0), call("unread", 0), call("unread", 1), call("unread", 1))
        self.assertEqual(told[2], [0])
        self.assertEqual(pairs_in(told[3]), [("t", "p: win"), ("t", "h1: win")])
        self.assertEqual(told[3], told[4])

    def test_no_edition(self):
        for k in FAR:
            told = ask(book_call(self.TEXT), call("read", k), call("unread", k), call("size"))
            self.assertEqual(told[1:], [[-2], [-2], [1, 4, 2, 0]])

    def test_the_last_edition(self):
        self.assertEqual(ask(book_call(self.TEXT), call("read", 1))[1], [3, 3])

    def test_a_new_object(self):
        told = ask(call("read", 0), call("unread", 0), call("next"), call("read", 1), call("unread", 1), call("read", -1))
        self.assertEqual(told, [[0, 0], [0], [0, 0], [-2], [-2], [-2]])

    def test_seen_stays_behind_a_change(self):
        told = ask(book_call(self.TEXT), call("read", 0), change_call(0, 1, "p if os=lin: new"), call("size"),
                   call("unread", 0), call("read", 0), change_call(0, 1, "item: lin"), call("unread", 0),
                   change_call(0, 1, "p id x: lin"), call("unread", 0), call("unread", 1), call("read", 1))
        self.assertEqual(told[1:4], [[2, 2], [1], [1, 4, 2, 2]])
        self.assertEqual(pairs_in(told[4]), [("t", "p: new")])
        self.assertEqual(told[5], [1, 3])
        self.assertEqual(pairs_in(told[7]), [("t", "item: lin")])
        self.assertEqual(told[9], [0])
        self.assertEqual(pairs_in(told[10]), [("t", "p: win"), ("t", "h1: win")])
        self.assertEqual(told[11], [2, 5])

    def test_a_new_book_forgets(self):
        told = ask(book_call(self.TEXT), call("read", 0), call("read", 1), book_call(self.TEXT), call("size"),
                   call("unread", 0), call("next"), call("read", 0))
        self.assertEqual(told[2:5], [[2, 4], [1, 2], [1, 4, 2, 0]])
        self.assertEqual(pairs_in(told[5]), [("t", "p: both"), ("t", "p: lin")])
        self.assertEqual(told[6:], [[1, 3], [2, 2]])

    def test_a_refused_book_forgets_nothing(self):
        told = ask(book_call(self.TEXT), call("read", 0), book_call(self.TEXT[:-1]), call("size"), call("unread", 0))
        self.assertEqual(told[2:], [[-1], [1, 4, 2, 2], [0]])

    def test_reading_changes_nothing_else(self):
        asked = [call("showbook"), call("classes"), call("compare", 0, 1), call("touched")]
        told = ask(book_call(self.TEXT), change_call(0, 1, "p: x"), *asked, call("read", 1), *asked)
        self.assertEqual(told[2:6], told[7:])


class Next(unittest.TestCase):
    THREE = ["a = x|y|z"]

    def test_the_most(self):
        text = book(self.THREE, [("t", ["p: 0", "p if a=y: 1", "p if a=y: 2", "p if a=z: 3"])], ["1 t"])
        told = ask(book_call(text), call("next"), call("read", 1), call("next"), call("read", 2), call("next"),
                   call("size"))
        self.assertEqual(told[1:], [[1, 3], [3, 3], [2, 1], [1, 4], [0, 0], [1, 4, 3, 4]])

    def test_the_first_of_several(self):
        text = book(self.THREE, [("t", ["p if not(a=x): 1", "p if a=y: 2", "p if a=z: 3"])], ["1 t"])
        told = ask(book_call(text), call("next"), call("read", 1), call("next"), call("read", 2), call("next"))
        self.assertEqual(told[1:], [[1, 2], [2, 2], [2, 1], [1, 3], [0, 0]])
        self.assertEqual(ask(book_call(book(self.THREE, [("t", ["p: 1"])], ["1 t"])), call("next"))[1], [0, 1])

    def test_contents_count_once(self):
        text = book(self.THREE, [("t", ["p: 1", "p: 1", "p: 1", "p if a=z: 2"])], ["1 t if not(a=x)", "1 t", "2 t"])
        self.assertEqual(ask(book_call(text), call("next"))[1], [2, 2])

    def test_nothing_is_shown(self):
        for text in (book(self.THREE), book(self.THREE, [("t", ["p: 1"])]), book(self.THREE, [("t", [])], ["1 t"]),
                     book(self.THREE, [("t", ["use t#a id a", "use t#b"])], ["1 t"])):
            self.assertEqual(ask(book_call(text), call("next"), call("size"))[1], [0, 0])

    def test_behind_a_change(self):
        text = book(self.THREE, [("t", ["p: 0", "p if a=x: 1"])], ["1 t"])
        told = ask(book_call(text), call("read", 0), call("next"), change_call(0, 1, "p if a=z: 2"), call("next"))
        self.assertEqual(told[2:], [[0, 0], [2], [2, 1]])


class Size(unittest.TestCase):
    def test_behind_read_change_and_book(self):
        text = book(OS, [("t", ["p: 1", "p if os=win: 2"]), ("u", []), ("v", ["use t#x"])], ["1 t", "1 v"])
        told = ask(call("size"), book_call(text), call("size"), call("read", 0), call("size"), change_call(0, 0, "p: 3"),
                   call("size"), call("read", 1), call("size"), call("mark"), call("size"),
                   book_call(book([], [("t", ["p: 1"])], ["1 t"])), call("size"))
        self.assertEqual(told[0::2], [[0, 0, 1, 0], [3, 3, 2, 0], [3, 3, 2, 1], [3, 3, 2, 1], [3, 3, 2, 3], [3, 3, 2, 3],
                                      [1, 1, 1, 0]])
