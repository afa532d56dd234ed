"""The lines that an edition's document has: sections, uses, keys, links."""

import unittest

from tests.helper import ask, book, book_call, call, document

OS = ["os = lin|win"]


class Sections(unittest.TestCase):
    def test_rows_in_order_if_they_hold(self):
        text = book(OS, [("t", ["p: x"]), ("u", [])], ["2 u", "1 t in s if os=lin", "4 t if os=win", "3 u"])
        self.assertEqual(document(text, 0), ["2 u", "1 t", "p: x", "3 u"])
        self.assertEqual(document(text, 1), ["2 u", "4 t", "p: x", "3 u"])

    def test_no_rows(self):
        self.assertEqual(document(book([], [("t", ["p: x"])])), [])

    def test_blocks_that_are_there(self):
        lines = ["h1: a", "h2 id x: b", "h3 if os=lin: c", "h4 id y if os=win: d", "p: ", "item: e",
                 "p if not(always): never", "p if (os=lin or os=win): f", "p if (os=lin and os=win): never"]
        text = book(OS, [("t", lines)], ["1 t"])
        self.assertEqual(document(text, 0), ["1 t", "h1: a", "h2 id x: b", "h3: c", "p: ", "item: e", "p: f"])
        self.assertEqual(document(text, 1), ["1 t", "h1: a", "h2 id x: b", "h4 id y: d", "p: ", "item: e", "p: f"])

    def test_signs_as_in_a_block(self):
        self.assertEqual(document(book([], [("t", ["p: \\{a\\}\\\\ {key k}~"])], ["1 t"], ["k = {b}\\"])),
                         ["1 t", "p: \\{a\\}\\\\ \\{b\\}\\\\~"])


class Uses(unittest.TestCase):
    def test_the_kind_and_line_with_the_own_id(self):
        text = book([], [("t", ["use u#a", "use u#a id x", "use u#b"]), ("u", ["h2 id a: A", "item id b: B"])], ["1 t"])
        self.assertEqual(document(text), ["1 t", "h2: A", "h2 id x: A", "item: B"])

    def test_the_first_piece_that_is_there(self):
        text = book(OS, [("t", ["use u#a"]), ("u", ["p id a if os=win: 1", "p id a: 2", "p id a: 3"])], ["1 t"])
        self.assertEqual(document(text, 0), ["1 t", "p: 2"])
        self.assertEqual(document(text, 1), ["1 t", "p: 1"])

    def test_a_use_that_is_not_there(self):
        text = book(OS, [("t", ["use u#a if os=win"]), ("u", ["p id a: 1"])], ["1 t"])
        self.assertEqual(document(text, 0), ["1 t"])
        self.assertEqual(document(text, 1), ["1 t", "p: 1"])

    def test_uses_of_uses(self):
        text = book([], [("t", ["use u#a id z"]), ("u", ["use v#b id a"]), ("v", ["use v#c id b", "p id c: C"])],
                    ["1 t"])
        self.assertEqual(document(text), ["1 t", "p id z: C"])

    def test_none(self):
        text = book(OS, [("t", ["use u#a", "use u#a id x", "use t#y id y if os=lin", "use u#b"]),
                         ("u", ["p id a if not(always): 1", "use u#c id b"])], ["1 t"])
        self.assertEqual(document(text, 0), ["1 t", "missing", "missing id x", "ring id y", "missing"])
        self.assertEqual(document(text, 1), ["1 t", "missing", "missing id x", "missing"])

    def test_rings(self):
        text = book([], [("t", ["use u#a", "use t#x id x", "use u#s id q"]),
                         ("u", ["use u#b id a", "use u#c id b", "use u#b id c", "use u#s id s"])], ["1 t", "1 u"])
        self.assertEqual(document(text), ["1 t", "ring", "ring id x", "ring id q",
                                          "1 u", "ring id a", "ring id b", "ring id c", "ring id s"])

    def test_a_ring_in_one_edition_alone(self):
        text = book(OS, [("t", ["use t#b id a", "p id b if os=lin: x", "use t#a id b"])], ["1 t"])
        self.assertEqual(document(text, 0), ["1 t", "p id a: x", "p id b: x", "p id b: x"])
        self.assertEqual(document(text, 1), ["1 t", "ring id a", "ring id b"])

    def test_two_uses_of_one_piece_are_no_ring(self):
        text = book([], [("t", ["use t#b id a", "use t#b id c", "use t#c", "p id b: x"])], ["1 t"])
        self.assertEqual(document(text), ["1 t", "p id a: x", "p id c: x", "p: x", "p id b: x"])


class Keys(unittest.TestCase):
    def shown(self, keys, rows=("1 t",), edition=0):
        return document(book(OS, [("t", ["p: {key k}"]), ("u", [])], rows, keys), edition)

    def test_nothing(self):
        self.assertEqual(self.shown([]), ["1 t", "p: {key?}"])
        self.assertEqual(self.shown(["j = x"]), ["1 t", "p: {key?}"])
        self.assertEqual(self.shown(["k if os=win = x"]), ["1 t", "p: {key?}"])

    def test_the_first_that_holds(self):
        keys = ["k if os=win = w", "k = a", "k = b"]
        self.assertEqual(self.shown(keys, edition=0), ["1 t", "p: a"])
        self.assertEqual(self.shown(keys, edition=1), ["1 t", "p: w"])

    def test_an_empty_text(self):
        self.assertEqual(self.shown(["k = ", "k = x"]), ["1 t", "p: "])

    def test_scopes(self):
        keys = ["k = all", "k in s if os=win = sw", "k in r = r", "k in s if os=win = again"]
        rows = ["1 t", "1 t in s", "1 t in r", "1 t in q"]
        self.assertEqual(self.shown(keys, rows, 0), ["1 t", "p: all", "1 t", "p: all", "1 t", "p: r", "1 t", "p: all"])
        self.assertEqual(self.shown(keys, rows, 1), ["1 t", "p: all", "1 t", "p: sw", "1 t", "p: r", "1 t", "p: all"])

    def test_a_scope_alone_means_nothing_outside(self):
        self.assertEqual(self.shown(["k in s = x"], ["1 t", "1 t in r", "1 t in s"]),
                         ["1 t", "p: {key?}", "1 t", "p: {key?}", "1 t", "p: x"])

    def test_a_key_that_means_a_topic(self):
        self.assertEqual(self.shown(["k -> u"], ["1 t", "1 u"]), ["1 t", "p: {1}", "1 u"])
        self.assertEqual(self.shown(["k -> u"], ["1 t"]), ["1 t", "p: {?}"])
        self.assertEqual(self.shown(["k in s -> t", "k = x"], ["1 u", "1 t in s", "1 t"]),
                         ["1 u", "1 t", "p: {1}", "1 t", "p: x"])

    def test_in_a_use_the_section_with_the_use_counts(self):
        text = book([], [("t", ["use u#a"]), ("u", ["p id a: {key k}"])], ["1 t in s", "1 u in r"],
                    ["k in s = S", "k in r = R"])
        self.assertEqual(document(text), ["1 t", "p: S", "1 u", "p id a: R"])


class Links(unittest.TestCase):
    def test_to_a_topic(self):
        text = book(OS, [("t", ["p: {link t}{link u}{link v}"]), ("u", []), ("v", [])],
                    ["1 u if os=win", "1 t", "1 u", "1 t"])
        self.assertEqual(document(text, 0), ["1 t", "p: {0}{1}{?}", "1 u", "1 t", "p: {0}{1}{?}"])
        self.assertEqual(document(text, 1), ["1 u", "1 t", "p: {1}{0}{?}", "1 u", "1 t", "p: {1}{0}{?}"])

    def test_to_a_piece(self):
        text = book(OS, [("t", ["p: {link u#a}{link u#b}{link t#a}{link v#a}"]),
                         ("u", ["p: x", "p id b if os=win: y", "p id a: z", "p id a: z"]), ("v", ["p id a: q"])],
                    ["1 t", "1 u", "1 u"])
        self.assertEqual(document(text, 0)[1], "p: {1.1}{?}{?}{?}")
        self.assertEqual(document(text, 1)[1], "p: {1.2}{1.1}{?}{?}")

    def test_to_the_first_section_that_has_it(self):
        text = book(OS, [("t", ["p: {link u#a}"]), ("u", ["use t#x id a if os=win", "p: x"])], ["1 u", "1 t", "1 u"])
        self.assertEqual(document(text, 0)[-4:], ["1 t", "p: {?}", "1 u", "p: x"])
        self.assertEqual(document(text, 1)[-5:], ["1 t", "p: {0.0}", "1 u", "missing id a", "p: x"])

    def test_a_use_has_its_own_id_alone(self):
        text = book([], [("t", ["p: {link t#a}{link t#b}{link #a}{link #b}", "use u#a id b"]), ("u", ["p id a: x"])],
                    ["1 t"])
        self.assertEqual(document(text), ["1 t", "p: {?}{0.1}{?}{0.1}", "p id b: x"])

    def test_to_a_ring(self):
        text = book([], [("t", ["p: {link #a}{link t#a}", "use t#a id a"])], ["1 t"])
        self.assertEqual(document(text), ["1 t", "p: {0.1}{0.1}", "ring id a"])

    def test_without_a_topic_in_the_own_section(self):
        text = book([], [("t", ["p: {link #a}", "p id a: 1", "p id a: 2"])], ["1 t", "2 t"])
        self.assertEqual(document(text), ["1 t", "p: {0.1}", "p id a: 1", "p id a: 2",
                                          "2 t", "p: {1.1}", "p id a: 1", "p id a: 2"])

    def test_without_a_topic_where_the_block_was_written(self):
        text = book([], [("t", ["use u#x id q"]), ("u", ["p id x: {link #a}{link #q}{link #x}", "p id a: A"])],
                    ["1 u", "1 t"])
        self.assertEqual(document(text), ["1 u", "p id x: {0.1}{?}{0.0}", "p id a: A",
                                          "1 t", "p id q: {0.1}{1.0}{0.0}"])

    def test_without_a_topic_the_use_in_between_does_not_count(self):
        text = book([], [("t", ["use u#x"]), ("u", ["use v#x id x", "p id a: u"]),
                         ("v", ["p id x: {link #a}", "p id a: v"])], ["1 t", "1 u", "1 v"])
        self.assertEqual(document(text)[:2], ["1 t", "p: {2.1}"])
        self.assertEqual(document(text)[2:4], ["1 u", "p id x: {1.1}"])

    def test_without_a_topic_nowhere(self):
        text = book([], [("t", ["p: {link #a}"]), ("u", ["p id a: x"])], ["1 t", "1 u"])
        self.assertEqual(document(text)[1], "p: {?}")

    def test_numbers_of_more_than_one_digit_are_never_needed_but_the_last_is_9(self):
        text = book([], [("t", ["p: x"] * 9 + ["p id a: {link #a}{link u#a}"]), ("u", ["p: x"] * 9 + ["p id a: y"])],
                    ["1 t"] * 9 + ["1 u"])
        self.assertEqual(document(text)[10], "p id a: {0.9}{9.9}")


class LargeDocuments(unittest.TestCase):
    def test_a_large_document_in_192_editions(self):
        line = "p: " + "{key k}" * 60
        text = book(["a = a|b|c|d", "b = a|b|c|d", "c = a|b|c|d", "d = a|b|c"], [("t", [line] * 10)], ["1 t"] * 10,
                    ["k if a=a = " + "{" * 20, "k = " + "x" * 39])
        told = ask(book_call(text), call("compare", 0, 1))[1]
        self.assertEqual(told[:3], [110, 110, 110])
        self.assertEqual(len(told), 3 + 10 * (1 + 3) + 100 * (1 + 3 + 60 * 40))
