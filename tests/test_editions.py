"""classes, matters, settle, cause: which editions are alike, and what tells them apart."""

import unittest

from tests.helper import ask, book, book_call, call, cause, classes, matters, settle

THREE = ["a = x|y", "b = x|y|z", "c = x|y"]


def shown(conditions, props=THREE):
    """A book in which each condition shows a line of its own."""
    return book(props, [("t", ["p if %s: %d" % (each, at) for at, each in enumerate(conditions)])], ["1 t"])


class Classes(unittest.TestCase):
    def test_all_alike(self):
        self.assertEqual(classes(shown([])), [list(range(12))])

    def test_numbered_by_the_first_property_first(self):
        self.assertEqual(classes(shown(["a=y"])), [[0, 1, 2, 3, 4, 5], [6, 7, 8, 9, 10, 11]])
        self.assertEqual(classes(shown(["b=y"])), [[0, 1, 4, 5, 6, 7, 10, 11], [2, 3, 8, 9]])
        self.assertEqual(classes(shown(["c=x"])), [[0, 2, 4, 6, 8, 10], [1, 3, 5, 7, 9, 11]])

    def test_all_unlike(self):
        self.assertEqual(classes(shown(["a=x", "b=x", "b=y", "c=x"])), [[n] for n in range(12)])

    def test_in_the_order_of_their_first_editions(self):
        self.assertEqual(classes(shown(["(a=y and c=y)", "b=z"])), [[0, 1, 2, 3, 6, 8], [4, 5, 10], [7, 9], [11]])

    def test_the_same_document_made_otherwise(self):
        text = book(["os = lin|win"], [("t", ["p if os=lin: a{key k}", "p if os=win: {key k}c"])], ["1 t in s"],
                    ["k in s if os=lin = bc", "k = ab"])
        self.assertEqual(classes(text), [[0, 1]])

    def test_a_scope_that_is_not_seen(self):
        text = book(["os = lin|win"], [("t", ["p: x"])], ["1 t in a if os=lin", "1 t in b if os=win"])
        self.assertEqual(classes(text), [[0, 1]])

    def test_uses_keys_and_links_count(self):
        props = ["a = x|y"]
        self.assertEqual(classes(book(props, [("t", ["use u#a"]), ("u", ["p id a if a=x: 1"])], ["1 t"])), [[0], [1]])
        self.assertEqual(classes(book(props, [("t", ["p: {key k}"])], ["1 t"], ["k if a=x = 1"])), [[0], [1]])
        self.assertEqual(classes(book(props, [("t", ["p: {link u#a}"]), ("u", ["p id a if a=x: 1", "p id a: 1"])],
                                      ["1 t", "1 u if a=x"])), [[0], [1]])
        self.assertEqual(classes(book(props, [("t", [])], ["1 t if a=x", "2 t if a=y"])), [[0], [1]])
        self.assertEqual(classes(book(props, [("t", ["p id a if a=x: 1", "p id b if a=y: 1"])], ["1 t"])), [[0], [1]])

    def test_what_is_not_in_the_map_does_not_count(self):
        self.assertEqual(classes(book(["a = x|y"], [("t", []), ("u", ["p if a=x: 1"])], ["1 t"])), [[0, 1]])

    def test_missing_is_no_ring(self):
        text = book(["a = x|y"], [("t", ["use t#a", "use t#a id a if a=x"])], ["1 t"])
        self.assertEqual(classes(text), [[0], [1]])


class Matters(unittest.TestCase):
    def test_none(self):
        self.assertEqual(matters(shown([])), [])
        self.assertEqual(matters(shown(["(a=x or not(a=x))", "(b=x and b=y)"])), [])

    def test_some(self):
        self.assertEqual(matters(shown(["b=z"])), [1])
        self.assertEqual(matters(shown(["b=z", "a=x"])), [0, 1])
        self.assertEqual(matters(shown(["c=x", "a=x"])), [0, 2])

    def test_in_a_corner_alone(self):
        self.assertEqual(matters(shown(["((a=y and b=z) and c=y)"])), [0, 1, 2])

    def test_a_property_that_is_told_but_cancels_out(self):
        text = book(THREE, [("t", ["p if (a=x and b=x): 1", "p if (a=y and b=x): 1"])], ["1 t"])
        self.assertEqual(matters(text), [1])

    def test_no_properties(self):
        self.assertEqual(matters(book([], [("t", ["p: x"])], ["1 t"])), [])


class Settle(unittest.TestCase):
    def test_nothing_to_tell(self):
        self.assertEqual(settle(shown([]), 7), [])
        self.assertEqual(settle(book([], [("t", [])], ["1 t"]), 0), [])

    def test_fewer_come_first(self):
        text = shown(["((a=y and b=y) or c=y)"])
        self.assertEqual(settle(text, 9), [("c", "y")])
        self.assertEqual(settle(text, 8), [("a", "y"), ("b", "y")])

    def test_the_earlier_property_comes_first(self):
        text = shown(["((a=x or b=x) or c=x)"])
        self.assertEqual(settle(text, 0), [("a", "x")])
        self.assertEqual(settle(text, 6), [("b", "x")])
        self.assertEqual(settle(text, 8), [("c", "x")])
        self.assertEqual(settle(text, 9), [("a", "y"), ("b", "y"), ("c", "y")])

    def test_of_two_values_the_first_differing_property_tells(self):
        pairs = shown(["((a=x and c=x) or (b=x and c=x))"])
        self.assertEqual(settle(pairs, 0), [("a", "x"), ("c", "x")])
        self.assertEqual(settle(shown(["((b=x and c=x) or (a=x and b=x))"]), 0), [("a", "x"), ("b", "x")])
        self.assertEqual(settle(shown(["((b=x and c=x) or (a=x and c=x))"]), 0), [("a", "x"), ("c", "x")])

    def test_all(self):
        self.assertEqual(settle(shown(["a=x", "b=x", "b=y", "c=x"]), 5), [("a", "x"), ("b", "z"), ("c", "y")])

    def test_only_values_of_the_edition(self):
        text = shown(["(a=x or b=x)"])
        self.assertEqual(settle(text, 2), [("a", "x")])
        self.assertEqual(settle(text, 8), [("a", "y"), ("b", "y")])

    def test_five_properties(self):
        props = ["p%d = a|b" % n for n in range(5)]
        text = shown(["((p0=a and p4=a) or (p1=a and p2=a))"], props)
        self.assertEqual(settle(text, 0), [("p0", "a"), ("p4", "a")])
        self.assertEqual(settle(text, 1), [("p1", "a"), ("p2", "a")])
        self.assertEqual(settle(text, 31), [("p0", "b"), ("p1", "b")])


class Cause(unittest.TestCase):
    def test_alike(self):
        self.assertEqual(cause(shown(["a=y"]), 0, 0), [])
        self.assertEqual(cause(shown(["a=y"]), 0, 5), [])
        self.assertEqual(cause(shown([]), 0, 11), [])

    def test_only_what_is_needed(self):
        text = shown(["a=y"])
        self.assertEqual(cause(text, 0, 11), [("a", "y")])
        self.assertEqual(cause(text, 11, 0), [("a", "x")])

    def test_fewer_come_first(self):
        text = shown(["((a=y and b=z) or c=y)"])
        self.assertEqual(cause(text, 0, 11), [("c", "y")])

    def test_the_earlier_property_comes_first(self):
        text = shown(["((a=y or b=z) or c=y)"])
        self.assertEqual(cause(text, 0, 11), [("a", "y")])
        self.assertEqual(cause(text, 0, 5), [("b", "z")])
        self.assertEqual(cause(text, 11, 0), [("a", "x"), ("b", "x"), ("c", "x")])

    def test_of_two_values_the_first_differing_property_tells(self):
        self.assertEqual(cause(shown(["((b=z and c=y) or (a=y and c=y))"]), 0, 11), [("a", "y"), ("c", "y")])

    def test_only_properties_in_which_the_two_are_unlike(self):
        text = shown(["((a=y and b=z) or (b=z and c=y))"])
        self.assertEqual(cause(text, 0, 5), [("b", "z"), ("c", "y")])
        self.assertEqual(cause(text, 6, 10), [("b", "z")])

    def test_the_other_document_is_made_not_only_another_one(self):
        text = shown(["a=y", "(a=y and b=z)"])
        self.assertEqual(cause(text, 0, 10), [("a", "y"), ("b", "z")])


class NoEdition(unittest.TestCase):
    FAR = (-1, -2, -12, 12, 13, 200, 10 ** 18, -10 ** 18)

    def test_settle(self):
        for k in self.FAR:
            self.assertEqual(ask(book_call(shown([])), call("settle", k))[1], [-2])

    def test_cause_and_compare(self):
        for word in ("cause", "compare"):
            for k in self.FAR:
                told = ask(book_call(shown([])), call(word, k, 0), call(word, 0, k), call(word, k, k), call(word, 11, 11))
                self.assertEqual(told[1:4], [[-2]] * 3)
                self.assertGreaterEqual(told[4][0], 0)

    def test_the_last_edition(self):
        self.assertEqual(ask(book_call(shown([])), call("settle", 11))[1], [0])

    def test_a_refusal_leaves_everything(self):
        text = shown(["a=y"])
        told = ask(book_call(text), call("settle", 12), call("cause", -1, 0), call("compare", 0, 12), call("showbook"),
                   call("classes"))
        self.assertEqual(told[4][0], len(text))
        self.assertEqual(told[5][0], 2)
