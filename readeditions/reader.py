"""The calls on one object, handed in and answered as one list of whole numbers."""

from readeditions.books import book_of
from readeditions.common import lines_in_common
from readeditions.documents import document_lines
from readeditions.editions import causing_places, classes_of, editions_of, hanging_properties, settling_places
from readeditions.texts import WrongText, coded

BOOK = 0
SHOWBOOK = 1
CLASSES = 2
MATTERS = 3
SETTLE = 4
CAUSE = 5
COMPARE = 6
NUMBERS_BEHIND = {1: 0, 2: 0, 3: 0, 4: 1, 5: 2, 6: 2, 13: 0}
WRONG_TEXT = -1
NO_EDITION = -2


class NoEdition(Exception):
    pass


def answers(calls):
    reader = Reader()
    told = []
    place = 0
    while place < len(calls):
        call = call_at(calls, place)
        place += len(call)
        answer = reader.answer_of(call)
        told.append(len(answer))
        told.extend(answer)
    return told


def call_at(calls, place):
    if calls[place] == BOOK:
        return calls[place:place + 2 + calls[place + 1]]
    return calls[place:place + 1 + NUMBERS_BEHIND[calls[place]]]


def listed(things):
    return [len(things)] + list(things)


def listed_each(lists):
    told = [len(lists)]
    for things in lists:
        told.extend(listed(things))
    return told


# Lines get numbers, so that documents are short to keep and quick to compare.
class LineStock:
    def __init__(self):
        self.lines = []
        self.number_of = {}

    def numbered(self, line):
        if line not in self.number_of:
            self.number_of[line] = len(self.lines)
            self.lines.append(line)
        return self.number_of[line]


class Reader:
    def __init__(self):
        self.stock = LineStock()
        self.take_book(coded("props\nmap\nkeys\n"))

    # Everything that can be refused comes before the first change.
    def take_book(self, text):
        book = book_of(text)
        self.text = text
        self.book = book
        self.editions = editions_of(book.properties)
        self.documents = self.documents_of(book)
        self.marked_documents = self.documents
        self.seen = []

    def documents_of(self, book):
        names = [told.name for told in book.properties]
        documents = []
        for edition in self.editions:
            lines = document_lines(book, dict(zip(names, edition)))
            documents.append(tuple([self.stock.numbered(line) for line in lines]))
        return documents

    def answer_of(self, call):
        try:
            return self.right_answer_of(call)
        except WrongText:
            return [WRONG_TEXT]
        except NoEdition:
            return [NO_EDITION]

    def right_answer_of(self, call):
        if call[0] == BOOK:
            return self.answer_book(tuple(call[2:]))
        if call[0] == SHOWBOOK:
            return listed(self.text)
        if call[0] == CLASSES:
            return listed_each(classes_of(self.documents))
        if call[0] == MATTERS:
            return listed(hanging_properties(self.editions, self.documents))
        if call[0] == SETTLE:
            return self.answer_settle(call[1])
        if call[0] == CAUSE:
            return self.answer_cause(call[1], call[2])
        if call[0] == COMPARE:
            return self.answer_compare(call[1], call[2])
        return self.answer_size()

    def check_edition(self, number):
        if not 0 <= number < len(self.editions):
            raise NoEdition()

    def answer_book(self, text):
        self.take_book(text)
        return [len(self.book.topics), len(self.editions)]

    def answer_settle(self, number):
        self.check_edition(number)
        return self.values_of(number, settling_places(number, self.editions, self.documents))

    def answer_cause(self, number, other_number):
        self.check_edition(number)
        self.check_edition(other_number)
        chosen = causing_places(number, other_number, self.editions, self.documents)
        return self.values_of(other_number, chosen)

    def values_of(self, number, places):
        told = [len(places)]
        for place in places:
            told.extend(listed(self.book.properties[place].name))
            told.extend(listed(self.editions[number][place]))
        return told

    def answer_compare(self, number, other_number):
        self.check_edition(number)
        self.check_edition(other_number)
        lines = self.documents[number]
        other_lines = self.documents[other_number]
        common = [self.stock.lines[line] for line in lines_in_common(lines, other_lines)]
        return [len(lines), len(other_lines)] + listed_each(common)

    def answer_size(self):
        blocks = sum([len(topic.blocks) for topic in self.book.topics])
        return [len(self.book.topics), blocks, len(self.editions), len(self.seen)]
