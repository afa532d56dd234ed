"""book and showbook: which texts are a book's, and which are not."""

import unittest

from tests.helper import ask, book, book_call, call, coded, ended

PROPS = ["os = lin|win", "lvl = a|b|c"]
EMPTY = "props\nmap\nkeys\n"


def with_block(line):
    return book(PROPS, [("t", [line]), ("u", [])])


def with_row(line):
    return book(PROPS, [("t", []), ("u", [])], [line])


def with_key(line):
    return book(PROPS, [("t", []), ("u", [])], [], [line])


def with_condition(condition):
    return with_block("p if " + condition + ": x")


class BookTest(unittest.TestCase):
    def taken(self, text, topics=None, editions=None):
        told = ask(book_call(text), call("showbook"))
        self.assertEqual(len(told[0]), 2, text)
        self.assertEqual(told[1], [len(text)] + coded(text))
        if topics is not None:
            self.assertEqual(told[0], [topics, editions])

    def refused(self, text):
        self.assertEqual(ask(book_call(text)), [[-1]], text)


class Taken(BookTest):
    def test_empty_book(self):
        self.taken(EMPTY, 0, 1)

    def test_all_kinds_of_blocks(self):
        lines = ["h1: a", "h2 id x: b", "h3 if os=lin: c", "h4 id x if not(os=lin): d", "p: e", "item: f",
                 "use t#x", "use u#y id z", "use u#y if lvl=c", "use t#x id x if (os=win or lvl=a)"]
        self.taken(book(PROPS, [("t", lines), ("u", [])]), 2, 6)

    def test_lines(self):
        for line in ("", " ", "~", "a:b: c", "\\{\\}\\\\", "{key k}", "{key nokey}", "{link t}", "{link u#x}",
                     "{link #x}", "{key k}{link t}x{link #y}", "if in id", " if os=bsd", "100% #1", "[|]"):
            self.taken(with_block("p: " + line), 2, 6)

    def test_words_that_may_be_names(self):
        for name in ("and", "or", "h1", "p", "item", "use", "key", "link", "a", "a1234567", "z09", "prop", "ids"):
            self.taken(book([name + " = x|" + name], [(name, ["p id " + name + " if " + name + "=x: {key " + name + "}",
                                                              "use " + name + "#" + name])],
                            ["1 " + name + " in " + name], [name + " in " + name + " -> " + name]), 1, 2)

    def test_conditions(self):
        for condition in ("os=lin", "not(always)", "(always and always)", "(os=lin or not(lvl=c))",
                          "((os=lin and lvl=a) or (os=win and lvl=b))", "not(not(os=lin))"):
            self.taken(with_condition(condition))
            self.taken(with_row("1 t if " + condition))
            self.taken(with_row("4 u in s if " + condition))
            self.taken(with_key("k if " + condition + " = text"))
            self.taken(with_key("k in s if " + condition + " -> t"))
            self.taken(with_block("use u#x id y if " + condition))

    def test_properties_called_and_and_or(self):
        self.taken(book(["and = or|and", "or = and|or"], [("t", ["p if (and=or and or=and): x"])]))

    def test_keys(self):
        for line in ("k = ", "k = text", "k =  two", "k = -> t", "k = a = b", "k = {\\}", "k in s = x", "k -> t"):
            self.taken(with_key(line))

    def test_keys_with_one_name(self):
        self.taken(book([], [("t", [])], [], ["k = a", "k = b", "k in s = c", "k in s -> t"]))

    def test_values_of_two_properties_with_one_name(self):
        self.taken(book(["a = x|y", "b = x|y|a"]), 0, 6)

    def test_ids_with_one_name(self):
        self.taken(book([], [("t", ["p id a: 1", "p id a: 2", "h1 id a: 3"])]))

    def test_edges(self):
        self.taken(book(["a = a|b|c|d", "b = a|b|c|d", "c = a|b|c|d", "d = a|b|c"]), 0, 192)
        self.taken(book(["p%d = a|b" % n for n in range(5)]), 0, 32)
        self.taken(book(["a = a|b|c|d", "b = a|b|c|d", "c = a|b|c", "d = a|b", "e = a|b"]), 0, 192)
        self.taken(book([], [("t%d" % n, ["p: "] * 10) for n in range(8)]), 8, 1)
        self.taken(book([], [("t", [])], ["1 t"] * 10, ["k = " + "{" * 40] * 10), 1, 1)
        self.taken(with_block("p: " + "x" * 60))
        self.taken(with_block("p: " + "\\{" * 60))
        self.taken(with_block("p: " + "{key k}{link t#x}" * 30))
        self.taken(with_condition("not(" * 11 + "always" + ")" * 11))
        self.taken(with_condition("(" * 5 + "os=lin" + " and os=win)" * 5 + ""))
        self.taken(with_condition("(not(os=lin) or " * 3 + "(os=lin and os=lin)" + ")" * 3))

    def test_all_signs(self):
        signs = [chr(byte) for byte in range(32, 127) if byte not in (92, 123, 125)]
        self.taken(with_block("p: " + "".join(signs[:60])))
        self.taken(with_block("p: " + "".join(signs[60:])))
        every = "".join(chr(byte) for byte in range(32, 127))
        for part in (every[:40], every[40:80], every[80:]):
            self.taken(with_key("k = " + part))


class Refused(BookTest):
    def test_no_book_at_all(self):
        for text in ("", "\n", "props", "props\n", "props\nmap\n", "map\nkeys\n", "props\nkeys\n", "props\nkeys\nmap\n",
                     "keys\nmap\nprops\n", "props\nprops\nmap\nkeys\n", "props\nmap\nmap\nkeys\n",
                     "props\nmap\nkeys\nkeys\n", "\nprops\nmap\nkeys\n", "props\nmap\nkeys\n\n", " props\nmap\nkeys\n",
                     "props \nmap\nkeys\n", "props\n\nmap\nkeys\n", "props\nmap\n\nkeys\n", "Props\nmap\nkeys\n",
                     "props\r\nmap\r\nkeys\r\n"):
            self.refused(text)

    def test_missing_last_byte_10(self):
        self.refused(EMPTY[:-1])
        self.refused(with_block("p: x")[:-1])
        self.refused(with_key("k = x")[:-1])

    def test_lines_in_another_order(self):
        self.refused(ended(["props", "topic t", "os = lin|win", "map", "keys"]))
        self.refused(ended(["props", "p: x", "map", "keys"]))
        self.refused(ended(["props", "map", "topic t", "keys"]))
        self.refused(ended(["props", "topic t", "map", "p: x", "keys"]))
        self.refused(ended(["props", "topic t", "map", "keys", "1 t"]))
        self.refused(ended(["props", "topic t", "map", "k = x", "keys"]))

    def test_names(self):
        no_names = ["props", "topic", "map", "keys", "always", "not", "id", "in", "if", "", "a12345678", "1a", "A",
                    "aB", "a_b", "a-b", "a b", " a", "a ", "\xe4", "`a", "a`", "{", "a{", "a/", "a:", "9"]
        for name in no_names:
            self.refused(book([name + " = a|b"]))
            self.refused(book(["os = a|" + name]))
            self.refused(book(["os = " + name + "|b"]))
            self.refused(book([], [(name, [])]))
            self.refused(with_block("p id " + name + ": x"))
            self.refused(with_block("use t#" + name))
            self.refused(with_block("use t#x id " + name))
            self.refused(with_block("p: {key " + name + "}"))
            self.refused(with_block("p: {link #" + name + "}"))
            self.refused(with_block("p: {link t#" + name + "}"))
            self.refused(with_row("1 t in " + name))
            self.refused(with_key(name + " = x"))
            self.refused(with_key("k in " + name + " = x"))

    def test_properties(self):
        for line in ("os", "os = ", "os = a", "os = a|b|c|d|e", "os = a|a", "os = a|b|a", "os = a|b|", "os = |a|b",
                     "os = a||b", "os = a |b", "os = a| b", "os=a|b", "os =a|b", "os  = a|b", "os = a|b ", "os = a,b"):
            self.refused(book([line]))
        self.refused(book(["os = a|b", "os = c|d"]))
        self.refused(book(["p%d = a|b" % n for n in range(6)]))

    def test_too_many_editions(self):
        self.refused(book(["a = a|b|c|d", "b = a|b|c|d", "c = a|b|c|d", "d = a|b|c|d"]))
        self.refused(book(["a = a|b|c", "b = a|b|c", "c = a|b|c", "d = a|b|c|d", "e = a|b"]))
        self.refused(book(["p%d = a|b|c|d" % n for n in range(5)]))

    def test_topics(self):
        self.refused(book([], [("t", []), ("u", []), ("t", [])]))
        self.refused(book([], [("t%d" % n, []) for n in range(9)]))
        self.refused(book([], [("t", ["p: x"] * 11)]))
        self.refused(book([], [("t", ["p: x"] * 10), ("u", ["p: x"] * 11)]))
        for line in ("topic", "topic ", "topic  t", "topic t ", "topic t u", "topic t: x", "Topic t"):
            self.refused(ended(["props", line, "map", "keys"]))

    def test_rows(self):
        for line in ("0 t", "5 t", "9 t", "10 t", "11 t", "01 t", "-1 t", "h1 t", "t", "1", "1 ", "1t", "1  t", " 1 t",
                     "1 t ", "1 v", "1 t in", "1 t in ", "1 t if", "1 t if ", "1 t if always", "1 t if os=lin in s",
                     "1 t in s in s", "1 t if os=lin if os=lin", "1 t#x", "1 t: x", "1 t id x"):
            self.refused(with_row(line))
        self.refused(book([], [("t", [])], ["1 t"] * 11))

    def test_keys(self):
        for line in ("k", "k ", "k =", "k=x", "k = \t", "k = \x7f", "k = \x80", "k ->", "k -> ", "k -> v", "k -> t ",
                     "k -> t#x", "k->t", "k if always = x", "k if os=lin in s = x", "k in s", "k if os=lin", " k = x",
                     "k  = x", "k in s  = x", "k id x = x", "k: x", "k = " + "x" * 41):
            self.refused(with_key(line))
        self.refused(book([], [], [], ["k = x"] * 11))

    def test_blocks(self):
        for line in ("", "p", "p:", "p:x", "p : x", " p: x", "P: x", "h: x", "h0: x", "h5: x", "h10: x", "h1", "h1:x",
                     "items: x", "para: x", "p id: x", "p id : x", "p  id a: x", "p id a id b: x", "p if os=lin id a: x",
                     "p if: x", "p if : x", "p if always: x", "p if os=lin if os=lin: x", "p id a if os=lin x",
                     "p in s: x", "use", "use ", "use t", "use t#", "use #x", "use t# x", "use v#x", "use  t#x",
                     "use t#x ", "use t#x: ", "use t#x: x", "use t#x id", "use t#x if always", "use t#x#y",
                     "use t#x if os=lin id y", "use t#x if os=lin: x", "missing", "ring"):
            self.refused(with_block(line))

    def test_lines(self):
        for line in ("{", "}", "\\", "x{", "x}y", "a\\b", "\\", "x\\", "\\\\\\", "\\{}", "{key}", "{key }", "{key k",
                     "{key k }", "{key  k}", "{key k}}", "{{key k}", "{Key k}", "{key k#x}", "{link}", "{link }",
                     "{link #}", "{link t#}", "{link t", "{link v}", "{link v#x}", "{link t #x}", "{link t#x#y}",
                     "{link  t}", "{0}", "{?}", "{key?}", "\\{key k}", "{key k\\}", "{link t\\}"):
            self.refused(with_block("p: " + line))
        self.refused(with_block("p: " + "x" * 61))
        self.refused(with_block("p: " + "\\\\" * 61))
        self.refused(with_block("p: " + "{key k}" * 61))
        self.refused(with_block("p: " + "{link t}" * 30 + "x" * 31))

    def test_bytes_that_are_no_signs(self):
        for byte in list(range(0, 10)) + list(range(11, 32)) + list(range(127, 256)):
            self.refused(with_block("p: a" + chr(byte) + "b"))
            self.refused(with_key("k = a" + chr(byte) + "b"))
        self.refused(with_block("p: a\nb"))
        self.refused(with_key("k = a\nb"))
        self.refused(with_block("p: \\" + chr(127)))

    def test_conditions(self):
        for condition in ("", "os", "os=", "=lin", "os=bsd", "os=a", "lvl=lin", "cpu=lin", "os==lin", "os = lin",
                          "OS=lin", "not", "not()", "not(os=lin", "not(os=lin))", "not os=lin", "not (os=lin)",
                          "not( os=lin)", "(os=lin)", "(always)", "()", "(os=lin and)", "(os=lin and )",
                          "(and os=lin)", "(os=lin and lvl=a", "os=lin and lvl=a", "(os=lin  and lvl=a)",
                          "(os=lin xor lvl=a)", "(os=lin and lvl=a and lvl=b)", "(os=lin or lvl=a and lvl=b)",
                          "(os=lin and lvl=a) ", "(os=linand lvl=a)", "(os=lin and (lvl=bsd or lvl=a))", "always",
                          "alwaysx", "always=a", "not=a", "not(os=bsd)", "(always or os=bsd)", "Always"):
            self.refused(with_condition(condition))
            self.refused(with_row("1 t if " + condition))
            self.refused(with_key("k if " + condition + " = x"))
            self.refused(with_block("use t#x if " + condition))

    def test_too_many_nodes(self):
        self.refused(with_condition("not(" * 12 + "always" + ")" * 12))
        self.refused(with_condition("(" * 6 + "os=lin" + " and os=lin)" * 6))
        self.refused(with_condition("(os=lin or " * 6 + "os=lin" + ")" * 6))
        self.refused(with_row("1 t if " + "not(" * 12 + "os=lin" + ")" * 12))
        self.refused(with_key("k if " + "not(" * 12 + "os=lin" + ")" * 12 + " = x"))

    def test_nested_as_deep_as_a_text_can_be(self):
        self.refused(with_condition("not(" * 1500 + "always" + ")" * 1500))
        self.refused(with_condition("(" * 7000))
        self.refused(with_condition("not(" * 1900))

    def test_topics_told_that_are_none(self):
        self.refused(book([], [("t", ["use u#x"])]))
        self.refused(book([], [("t", ["p: {link u}"])]))
        self.refused(book([], [("t", ["p: {link u#x}"])]))
        self.refused(book([], [("t", [])], ["1 u"]))
        self.refused(book([], [("t", [])], [], ["k -> u"]))
        self.taken(book([], [("t", ["use u#x", "p: {link u}{link u#x}"]), ("u", [])], ["1 u"], ["k -> u"]))

    def test_any_bytes(self):
        self.refused("".join(chr(byte) for byte in range(256)))
        self.refused("\n" * 8000)
        self.refused("a" * 8000)
        self.refused("\x00")


class RefusedLeavesAll(BookTest):
    def test_nothing_changes(self):
        text = book(PROPS, [("t", ["p if os=lin: x"])], ["1 t"])
        asked = [call("showbook"), call("classes"), call("matters"), call("settle", 0), call("cause", 0, 5),
                 call("compare", 0, 5), call("size")]
        for wrong in ("", EMPTY[:-1], with_block("p if os=bsd: x"), with_row("5 t"), with_key("k -> v")):
            told = ask(book_call(text), *asked, book_call(wrong), *asked)
            self.assertEqual(told[8], [-1])
            self.assertEqual(told[1:8], told[9:])

    def test_new_object_stays_new(self):
        told = ask(book_call("props\n"), call("showbook"), call("size"))
        self.assertEqual(told, [[-1], [15] + coded(EMPTY), [0, 0, 1, 0]])

    def test_a_second_book_takes_the_place_of_the_first(self):
        first = book(PROPS, [("t", ["p if os=lin: x"])], ["1 t"])
        second = book(["a = x|y"], [("u", ["p: x"]), ("v", ["p: x", "use u#x"])], ["2 v"])
        told = ask(book_call(first), book_call(second), call("showbook"), call("size"), call("compare", 0, 1),
                   call("settle", 2))
        self.assertEqual(told[1], [2, 2])
        self.assertEqual(told[2], [len(second)] + coded(second))
        self.assertEqual(told[3], [2, 3, 2, 0])
        self.assertEqual(told[4][:3], [3, 3, 3])
        self.assertEqual(told[5], [-2])


class Size(BookTest):
    def test_topics_blocks_editions(self):
        text = book(PROPS, [("t", ["p: x"] * 3), ("u", []), ("v", ["use t#x"] * 2)], ["1 t", "1 t"], ["k = x"])
        self.assertEqual(ask(book_call(text), call("size"))[1], [3, 5, 6, 0])
