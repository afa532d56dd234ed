"""Books made by chance, right ones and spoilt ones, answered as the model answers them."""

import unittest
from random import Random

from tests.helper import ask, book_call, call, change_call, ended
from tests.model import Model

NAMES = ["a", "b", "c", "p", "or", "and"]


class Maker:
    def __init__(self, seed):
        self.random = Random(seed)

    def pick(self, things):
        return self.random.choice(things)

    def often(self, of_ten):
        return self.random.randrange(10) < of_ten

    def upto(self, most):
        return self.random.randint(0, most)

    def condition(self, deep):
        way = self.upto(6 if deep else 3)
        if way <= 2 and self.props:
            name = self.pick(list(self.props))
            return name + "=" + self.pick(self.props[name])
        if way <= 3 or not deep:
            return "always"
        if way == 4:
            return "not(" + self.condition(deep - 1) + ")"
        return "(%s %s %s)" % (self.condition(deep - 1), self.pick(["and", "or"]), self.condition(deep - 1))

    def behind_if(self):
        condition = self.condition(2)
        return " if " + condition if self.often(6) and condition != "always" else ""

    def behind(self, word, of_ten):
        return word + self.pick(NAMES) if self.often(of_ten) else ""

    def part(self):
        way = self.upto(7)
        if way == 0:
            return "{key %s}" % self.pick(NAMES[:3])
        if way == 1:
            return "{link %s}" % self.pick(self.topics)
        if way == 2:
            return "{link %s#%s}" % (self.pick(self.topics), self.pick(NAMES[:4]))
        if way == 3:
            return "{link #%s}" % self.pick(NAMES[:4])
        return self.pick(["x", "y", " ", "\\{", "\\}", "\\\\", "0", "{key a}"])

    def block(self):
        if self.often(4):
            return "use %s#%s%s%s" % (self.pick(self.topics), self.pick(NAMES[:4]), self.behind(" id ", 6),
                                      self.behind_if())
        line = "".join(self.part() for _ in range(self.upto(3)))
        return self.pick(["h1", "h2", "p", "p", "item"]) + self.behind(" id ", 6) + self.behind_if() + ": " + line

    def book(self):
        names = self.random.sample(NAMES, self.pick([0, 1, 2, 2, 3, 3]))
        self.props = {name: self.random.sample(NAMES, self.random.randint(2, 3)) for name in names}
        self.topics = self.random.sample(NAMES, self.random.randint(1, 4))
        lines = ["props"] + [name + " = " + "|".join(self.props[name]) for name in self.props]
        for topic in self.topics:
            lines += ["topic " + topic] + [self.block() for _ in range(self.upto(6))]
        lines += ["map"]
        for _ in range(self.upto(4)):
            lines.append("%d %s%s%s" % (self.random.randint(1, 4), self.pick(self.topics), self.behind(" in ", 4),
                                        self.behind_if()))
        lines += ["keys"]
        for _ in range(self.upto(6)):
            meaning = " -> " + self.pick(self.topics) if self.often(3) else " = " + self.pick(["", "x", "y{", "\\}"])
            lines.append(self.pick(NAMES[:3]) + self.behind(" in ", 4) + self.behind_if() + meaning)
        return ended(lines)

    def spoilt(self, text):
        place = self.upto(len(text) - 1)
        way = self.upto(4)
        if way == 0:
            return text[:place] + text[place + 1:]
        if way == 1:
            return text[:place] + self.pick(" {}\\=|#:()\nabp1\t\x7f\xe9") + text[place + self.upto(1):]
        if way == 2:
            return text[:place] + text[place + 1:place + 2] + text[place:place + 1] + text[place + 2:]
        lines = text.split("\n")
        at = self.upto(len(lines) - 1)
        if way == 3:
            return "\n".join(lines[:at] + lines[at + 1:])
        return "\n".join(lines[:at] + [self.pick(lines)] + lines[at:])


def as_call(word, *given):
    if word == "book":
        return book_call(*given)
    return change_call(*given) if word == "change" else call(word, *given)


class AgainstModel(unittest.TestCase):
    def check(self, asked):
        model = Model()
        told = ask(*[as_call(*one) for one in asked])
        self.assertEqual(len(told), len(asked))
        for one, answer in zip(asked, told):
            self.assertEqual(answer, model.answer(*one), (one, model.text))
        return told

    def test_right_books(self):
        for seed in range(500):
            maker = Maker(seed)
            asked = [("book", maker.book()), ("showbook",), ("classes",), ("matters",), ("size",)]
            for _ in range(4):
                k = maker.upto(13) - 1
                l = maker.upto(13) - 1
                asked += [("settle", k), ("cause", k, l), ("compare", k, l)]
            self.check(asked)

    def test_spoilt_books(self):
        taken = 0
        for seed in range(300):
            maker = Maker(seed)
            text = maker.book()
            texts = [maker.spoilt(text) for _ in range(8)]
            asked = [("book", text)]
            for spoilt in texts:
                asked += [("book", spoilt), ("showbook",), ("classes",)]
            self.check(asked)
            taken += sum(len(answer) == 2 for answer in ask(*[book_call(spoilt) for spoilt in texts]))
        self.assertGreater(taken, 200)
        self.assertLess(taken, 2200)

    def test_sessions(self):
        many = {}
        for seed in range(300):
            maker = Maker(seed)
            text = maker.book()
            asked = [("book", text)]
            for _ in range(29):
                asked.append(self.step(maker, text))
            for one, answer in zip(asked, self.check(asked)):
                many.setdefault((one[0], min(answer[0], 2)), []).append(answer)
        for word, first in (("change", -3), ("change", -1), ("change", 0), ("change", 1), ("change", 2), ("touched", 0),
                            ("touched", 2), ("mark", 0), ("mark", 2), ("read", -2), ("read", 0), ("read", 2),
                            ("unread", -2), ("unread", 0), ("unread", 2), ("next", 0), ("next", 2), ("book", -1)):
            self.assertGreater(len(many[word, first]), 25, (word, first))

    def step(self, maker, text):
        way = maker.upto(15)
        if way <= 5:
            block = maker.block()
            if maker.often(2):
                block = maker.spoilt(block) if block else ""
            return ("change", maker.upto(4) - (way == 0), maker.upto(5) - (way == 0), block)
        if way <= 10:
            word = ("touched", "mark", "next", "size", "showbook")[way - 6]
            return (word,) if word != "showbook" else maker.pick([("showbook",), ("classes",), ("matters",)])
        if way == 15:
            return maker.pick([("book", text), ("book", maker.spoilt(text)), ("cause", 0, 1), ("compare", 1, 0),
                               ("settle", 1)])
        return (maker.pick(["read", "unread"]), maker.upto(8) - 1)
