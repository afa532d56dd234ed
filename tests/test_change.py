"""change, touched, mark: another block in a book, and the editions that must be printed anew."""

import unittest

from tests.helper import ask, book, book_call, call, change_call, pairs_in, text_told, texts_in

PROPS = ["os = lin|win", "lvl = a|b|c"]
BLOCKS = ["h1: Intro", "p id x if os=lin: Linux", "use u#y id z", "p if lvl=c: last"]
TEXT = book(PROPS, [("t", BLOCKS), ("empty", []), ("u", ["p: first", "item id y: piece"])], ["1 t", "2 u in s"],
            ["k = text", "k in s -> u"])
EVERYTHING = [call("showbook"), call("classes"), call("matters"), call("settle", 5), call("cause", 0, 5),
              call("compare", 0, 5), call("touched"), call("unread", 0), call("unread", 5), call("next"), call("size")]
FAR = (-1, -2, -3, -4, -10 ** 18, 10, 200, 10 ** 18)


def with_text(old, new):
    assert TEXT.count(old + "\n") == 1
    return TEXT.replace(old + "\n", new + "\n")


def changed(*changes, text=TEXT):
    """What change answers, call by call."""
    told = ask(book_call(text), *[change_call(*one) for one in changes])
    assert len(told[0]) == 2
    return [answer[0] for answer in told[1:]]


class NoBlock(unittest.TestCase):
    def refused(self, i, j, block="p: right"):
        self.assertEqual(ask(book_call(TEXT), change_call(i, j, block))[1], [-3], (i, j, block))

    def test_no_topic(self):
        for i in FAR + (3, 4):
            for j in FAR + (0, 1):
                self.refused(i, j)

    def test_no_block_in_it(self):
        for j in FAR + (4, 5):
            self.refused(0, j)
        for j in FAR + (0, 1):
            self.refused(1, j)
        for j in FAR + (2, 3):
            self.refused(2, j)

    def test_looked_at_before_the_text(self):
        for i, j in ((3, 0), (-1, 0), (0, 4), (0, -1), (1, 0), (-10 ** 18, 10 ** 18)):
            for block in ("", "wrong", "\n", "use v#x", "p if os=bsd: x", "\x00"):
                self.refused(i, j, block)

    def test_the_last_blocks_are_there(self):
        self.assertEqual(changed((0, 3, "p: x"), (2, 1, "p: x"), (2, 0, "p: x"), (0, 0, "p: x")), [6, 6, 6, 6])

    def test_a_new_object_has_none(self):
        self.assertEqual(ask(change_call(0, 0, "p: x"), change_call(0, 0, "")), [[-3], [-3]])


class WrongText(unittest.TestCase):
    def refused(self, *blocks):
        for block in blocks:
            for i, j in ((0, 0), (0, 2), (2, 1)):
                self.assertEqual(changed((i, j, block)), [-1], block)

    def test_no_block_text(self):
        self.refused("", " ", "p", "p:", "p:x", "p x", " p: x", "h0: x", "h5: x", "P: x", "q: x", "use t", "use #x",
                     "use t#x: ", "use t#x ", "p id: x", "p id in: x", "p id a id b: x", "p if os=lin id a: x",
                     "p if always: x", "use t#x if always", "p: {", "p: }", "p: \\", "p: \\a", "p: {key}", "p: {link}",
                     "p: {key if}", "missing", "ring", "p in s: x")

    def test_lines_of_a_book_that_are_no_block(self):
        self.refused("props", "topic v", "topic t", "map", "keys", "1 t", "k = x", "k -> t", "os = a|b")

    def test_byte_10(self):
        self.refused("\n", "p: x\n", "p: x\np: y", "p: \n", "\np: x", "use t#x\n", "p\n: x", "p id a\n: x",
                     "p if os=lin\n: x", "p: x\ntopic v", "use t#x\nuse t#x")

    def test_other_bytes(self):
        for byte in list(range(32)) + list(range(127, 256)):
            self.refused("p: a" + chr(byte) + "b", chr(byte), "p: " + chr(byte))

    def test_a_topic_that_is_none(self):
        self.refused("use v#x", "p: {link v}", "p: {link v#x}", "p: {link t}{link v}", "use v#x id y if os=lin")

    def test_a_property_or_value_that_is_none(self):
        self.refused("p if cpu=a: x", "p if os=bsd: x", "p if os=a: x", "p if lvl=lin: x", "use t#x if os=bsd",
                     "p if (os=lin or not(lvl=d)): x")

    def test_too_many_parts(self):
        self.refused("p: " + "x" * 61, "p: " + "\\{" * 61, "item: " + "{key k}" * 61, "p: " + "x" * 7997)
        self.assertEqual(changed((0, 0, "p: " + "x" * 60)), [6])
        self.assertEqual(changed((0, 0, "p: " + "{link t#x}" * 60)), [6])

    def test_too_many_nodes(self):
        self.refused("p if " + "not(" * 12 + "always" + ")" * 12 + ": x",
                     "use t#x if " + "(os=lin or " * 6 + "os=lin" + ")" * 6,
                     "p if " + "not(" * 1500 + "always" + ")" * 1500 + ": x", "p if " + "(" * 7900)
        self.assertEqual(changed((0, 0, "p if " + "not(" * 11 + "always" + ")" * 11 + ": x")), [6])

    def test_any_bytes(self):
        self.refused("a" * 8000, "\x00" * 8000, "\n" * 8000)


class RefusedLeavesAll(unittest.TestCase):
    def test_nothing_changes(self):
        wrong = [change_call(0, 4, "p: x"), change_call(3, 0, "p: x"), change_call(-1, 0, "p: x"),
                 change_call(0, 0, ""), change_call(0, 0, "use v#x"), change_call(0, 0, "p if os=bsd: x"),
                 change_call(0, 0, "topic v"), change_call(0, 0, "p: x\np: y"), call("read", 6), call("read", -1),
                 call("unread", 6), book_call(""), book_call(TEXT[:-1])]
        before = [book_call(TEXT), call("read", 1), change_call(0, 1, "p: other")]
        for one in wrong:
            told = ask(*before, *EVERYTHING, one, *EVERYTHING)
            many = len(EVERYTHING)
            self.assertLess(told[3 + many][0], 0)
            self.assertEqual(told[3:3 + many], told[4 + many:])
            self.assertEqual(told[3 + 6][0], 6)


class Changed(unittest.TestCase):
    def test_everything_tells_it(self):
        for i, j, old, new in ((0, 0, "h1: Intro", "h3 id q if lvl=b: {key k}"), (0, 1, BLOCKS[1], "use t#z id x"),
                               (0, 2, BLOCKS[2], "p id z: {link #x}"), (0, 3, BLOCKS[3], "p: "),
                               (2, 0, "p: first", "use t#x"), (2, 1, "item id y: piece", "h2 id y if os=win: \\{100%\\}")):
            told = ask(book_call(TEXT), change_call(i, j, new), *EVERYTHING)
            as_new = ask(book_call(with_text(old, new)), *EVERYTHING)
            self.assertGreater(told[1][0], 0)
            self.assertEqual(told[2:8], as_new[1:7])
            self.assertEqual(told[9:], as_new[8:])
            self.assertEqual(told[2], text_told(with_text(old, new)))

    def test_several_changes(self):
        told = ask(book_call(TEXT), change_call(0, 0, "p: 0"), change_call(2, 1, "p: 21"), change_call(0, 3, "use t#x"),
                   change_call(0, 0, "p: 00"), call("showbook"))
        blocks = ["p: 00"] + BLOCKS[1:3] + ["use t#x"]
        text = book(PROPS, [("t", blocks), ("empty", []), ("u", ["p: first", "p: 21"])], ["1 t", "2 u in s"],
                    ["k = text", "k in s -> u"])
        self.assertEqual(told[5], text_told(text))

    def test_in_how_many_editions(self):
        self.assertEqual(changed((0, 0, "h1: Other")), [6])
        self.assertEqual(changed((0, 1, "p id x if os=lin: Linux 2")), [3])
        self.assertEqual(changed((0, 3, "p if lvl=c: other")), [2])
        self.assertEqual(changed((0, 3, "p if lvl=b: last")), [4])
        self.assertEqual(changed((0, 3, "p if (lvl=c and os=win): last")), [1])
        self.assertEqual(changed((0, 3, "p: last")), [4])
        self.assertEqual(changed((2, 1, "item id y: other piece")), [6])

    def test_against_the_book_just_before(self):
        self.assertEqual(changed((0, 1, "p if os=lin: a"), (0, 1, "p if os=lin: a"), (0, 1, "p if os=win: a"),
                                 (0, 1, BLOCKS[1])), [3, 0, 6, 6])

    def test_the_same_block(self):
        self.assertEqual(changed(*[(0, j, block) for j, block in enumerate(BLOCKS)]), [0] * 4)

    def test_what_shows_nowhere(self):
        text = book(PROPS, [("t", ["p if not(always): x", "p: {key k}", "p if os=lin: x"]), ("u", ["p id a: x"])],
                    ["1 t", "1 u if (os=lin and os=win)"], ["k = text"])
        self.assertEqual(changed((0, 0, "p if (os=lin and os=win): y"), (0, 1, "p: text"), (0, 2, "p if not(os=win): x"),
                                 (1, 0, "h1: other"), text=text), [0, 0, 0, 0])
        told = ask(book_call(text), change_call(1, 0, "h1: other"), call("showbook"), call("touched"))
        self.assertEqual(told[2], text_told(text.replace("p id a: x", "h1: other")))
        self.assertEqual(told[3], [0])

    def test_an_id_alone(self):
        self.assertEqual(changed((0, 0, "h1 id i: Intro"), (0, 1, "p if os=lin: Linux")), [6, 3])

    def test_a_link_that_leads_elsewhere(self):
        text = book(PROPS, [("t", ["p: {link u#a}"]), ("u", ["p id b if os=lin: x", "p id a: x"])], ["1 t", "1 u"])
        self.assertEqual(changed((1, 0, "p id a if not(always): x"), (1, 0, "p id a if lvl=a: x"), text=text), [3, 2])

    def test_a_use_changed_into_a_block(self):
        told = ask(book_call(TEXT), call("read", 2), change_call(0, 2, "item id z: own"), call("compare", 5, 5),
                   call("unread", 5), call("size"), change_call(2, 1, "p id y: p"), call("compare", 5, 5))
        self.assertEqual(told[2], [6])
        self.assertEqual(texts_in(told[3][2:]), ["1 t", "h1: Intro", "item id z: own", "p: last", "2 u", "p: first",
                                                 "item id y: piece"])
        self.assertEqual(pairs_in(told[4]), [("t", "item: own")])
        self.assertEqual(told[5], [3, 6, 6, 5])
        self.assertEqual(texts_in(told[7][2:])[2:4], ["item id z: own", "p: last"])

    def test_a_block_changed_into_a_use(self):
        told = ask(book_call(TEXT), change_call(0, 0, "use u#y"), change_call(2, 1, "use t#z id y"),
                   call("compare", 1, 1), change_call(0, 2, "use u#no id z"), call("compare", 1, 1))
        self.assertEqual(told[1], [6])
        self.assertEqual(texts_in(told[3][2:]), ["1 t", "ring", "p id x: Linux", "ring id z", "2 u", "p: first",
                                                 "ring id y"])
        self.assertEqual(texts_in(told[5][2:]), ["1 t", "missing", "p id x: Linux", "missing id z", "2 u", "p: first",
                                                 "missing id y"])

    def test_a_use_changed_into_another_use(self):
        self.assertEqual(changed((0, 2, "use u#y"), (0, 2, "use u#y id z"), (0, 2, "use t#x id z")), [6, 6, 6])

    def test_editions_stay(self):
        told = ask(book_call(TEXT), change_call(0, 1, "p: x"), call("size"), call("settle", 5), call("settle", 6))
        self.assertEqual(told[2], [3, 6, 6, 0])
        self.assertEqual(told[4], [-2])

    def test_a_book_may_grow_beyond_what_a_call_can_hand_in(self):
        line = "p: " + "{link tttttttt#pppppppp}" * 60
        text = book([], [("tttttttt", ["p: x"] * 10)], ["1 tttttttt"])
        told = ask(book_call(text), *[change_call(0, j, line) for j in range(10)], call("showbook"))
        self.assertEqual(told[1:11], [[1]] * 10)
        self.assertEqual(told[11], text_told(text.replace("p: x", line)))

    def test_book_behind_a_change(self):
        told = ask(book_call(TEXT), change_call(0, 0, "p: x"), book_call(TEXT), call("showbook"), call("touched"))
        self.assertEqual(told[3], text_told(TEXT))
        self.assertEqual(told[4], [0])


class Touched(unittest.TestCase):
    def test_rising_numbers(self):
        told = ask(book_call(TEXT), call("touched"), change_call(0, 3, "p if lvl=b: last"), call("touched"))
        self.assertEqual(told[1:], [[0], [4], [4, 1, 2, 4, 5]])

    def test_against_the_marked_book_not_the_last_one(self):
        told = ask(book_call(TEXT), change_call(0, 1, "p if os=lin: a"), change_call(0, 3, "p if lvl=c: b"),
                   call("touched"))
        self.assertEqual(told[1:], [[3], [2], [4, 0, 1, 2, 5]])

    def test_a_change_taken_back(self):
        told = ask(book_call(TEXT), change_call(0, 1, "p: a"), call("touched"), change_call(0, 1, BLOCKS[1]),
                   call("touched"), call("mark"))
        self.assertEqual(told[1:], [[6], [6, 0, 1, 2, 3, 4, 5], [6], [0], [0]])

    def test_the_same_document_by_another_block(self):
        told = ask(book_call(TEXT), change_call(0, 0, "h1: Other"), change_call(0, 0, "h1 if not(not(always)): Intro"),
                   call("touched"))
        self.assertEqual(told[1:], [[6], [6], [0]])

    def test_a_new_object(self):
        self.assertEqual(ask(call("touched"), call("mark"), call("touched")), [[0], [0], [0]])

    def test_nothing_behind_a_new_book(self):
        other = book(["a = x|y"], [("t", ["p if a=x: 1"])], ["1 t"])
        told = ask(book_call(TEXT), change_call(0, 0, "p: x"), book_call(other), call("touched"), call("mark"),
                   change_call(0, 0, "p if a=y: 1"), call("touched"))
        self.assertEqual(told[3:], [[0], [0], [2], [2, 0, 1]])

    def test_a_refused_book_marks_nothing(self):
        told = ask(book_call(TEXT), change_call(0, 3, "p if lvl=c: b"), book_call(TEXT[:-1]), call("touched"))
        self.assertEqual(told[3], [2, 2, 5])


class Mark(unittest.TestCase):
    def test_how_many_and_then_none(self):
        told = ask(book_call(TEXT), call("mark"), change_call(0, 1, "p if os=lin: a"), call("mark"), call("touched"),
                   call("mark"), call("showbook"))
        self.assertEqual(told[1:6], [[0], [3], [3], [0], [0]])
        self.assertEqual(told[6], text_told(TEXT.replace(BLOCKS[1], "p if os=lin: a")))

    def test_touched_is_against_the_book_marked_last(self):
        told = ask(book_call(TEXT), change_call(0, 1, "p if os=lin: a"), call("mark"), change_call(0, 3, "p if lvl=c: b"),
                   call("touched"), change_call(0, 1, BLOCKS[1]), call("touched"), change_call(0, 3, BLOCKS[3]),
                   call("touched"), call("mark"))
        self.assertEqual(told[1:], [[3], [3], [2], [2, 2, 5], [3], [4, 0, 1, 2, 5], [2], [3, 0, 1, 2], [3]])

    def test_what_was_seen_stays(self):
        told = ask(book_call(TEXT), call("read", 0), call("mark"), call("size"))
        self.assertEqual(told[3], [3, 6, 6, told[1][1]])


class ManyEditions(unittest.TestCase):
    def test_changes_in_192_large_editions(self):
        line = "p id a: {link #a}" + "{key k}" * 59
        text = book(["a = a|b|c|d", "b = a|b|c|d", "c = a|b|c|d", "d = a|b|c"], [("t", [line] * 10)], ["1 t"] * 10,
                    ["k if a=a = " + "{" * 40, "k if b=b = " + "}" * 40, "k = x"])
        told = ask(book_call(text), *[change_call(0, 0, "p if c=a: %d" % n) for n in range(20)], call("touched"))
        self.assertEqual(told[1:21], [[192]] + [[48]] * 19)
        self.assertEqual(told[21], [192] + list(range(192)))
