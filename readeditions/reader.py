"""The calls on one object, handed in and answered as one list of whole numbers."""

from readeditions.books import book_of, changed_book
from readeditions.common import lines_in_common
from readeditions.contents import block_text_of, contents_of, unseen_of
from readeditions.documents import document_lines, sections_of
from readeditions.editions import causing_places, classes_of, editions_of, hanging_properties, settling_places
from readeditions.editions import unlike_numbers
from readeditions.texts import LINE_END, WrongText, bytes_of, text_of

BOOK = 0
SHOWBOOK = 1
CLASSES = 2
MATTERS = 3
SETTLE = 4
CAUSE = 5
COMPARE = 6
CHANGE = 7
TOUCHED = 8
MARK = 9
READ = 10
UNREAD = 11
NEXT = 12
NUMBERS_BEHIND = {0: 0, 1: 0, 2: 0, 3: 0, 4: 1, 5: 2, 6: 2, 7: 2, 8: 0, 9: 0, 10: 1, 11: 1, 12: 0, 13: 0}
EMPTY_BOOK = "props\nmap\nkeys\n"
WRONG_TEXT = -1
NO_EDITION = -2
NO_BLOCK = -3


class NoEdition(Exception):
    pass


class NoBlock(Exception):
    pass


def answers(calls):
    reader = Reader()
    told = []
    place = 0
    while place < len(calls):
        call = call_at(calls, place)
        place += len(call)
        answer = reader.answer_of(call)
        told.append(len(answer))
        told.extend(answer)
    return told


def call_at(calls, place):
    end = place + 1 + NUMBERS_BEHIND[calls[place]]
    if calls[place] in (BOOK, CHANGE):
        end += 1 + calls[end]
    return calls[place:end]


def listed(things):
    return [len(things)] + things


def listed_each(lists):
    told = [len(lists)]
    for things in lists:
        told.extend(listed(things))
    return told


def listed_text(text):
    return listed(bytes_of(text))


class Reader:
    def __init__(self):
        self.take_book(book_of(EMPTY_BOOK))

    def take_book(self, book):
        self.editions = editions_of(book.properties)
        self.show_book(book)
        self.marked_documents = self.documents
        self.seen = {}

    def show_book(self, book):
        names = [told.name for told in book.properties]
        documents = []
        contents = []
        # Editions have most lines in common: the same line is kept once.
        shared = {}
        for edition in self.editions:
            value_of = dict(zip(names, edition))
            sections = sections_of(book, value_of)
            lines = document_lines(book, value_of, sections)
            documents.append(tuple([shared.setdefault(line, line) for line in lines]))
            contents.append(contents_of(sections))
        self.book = book
        self.documents = documents
        self.contents = contents

    def answer_of(self, call):
        try:
            return self.right_answer_of(call)
        except WrongText:
            return [WRONG_TEXT]
        except NoEdition:
            return [NO_EDITION]
        except NoBlock:
            return [NO_BLOCK]

    def right_answer_of(self, call):
        if call[0] == BOOK:
            return self.answer_book(call[2:])
        if call[0] == SHOWBOOK:
            return self.answer_showbook()
        if call[0] == CLASSES:
            return listed_each(classes_of(self.documents))
        if call[0] == MATTERS:
            return listed(hanging_properties(self.editions, self.documents))
        if call[0] == SETTLE:
            return self.answer_settle(call[1])
        if call[0] == CAUSE:
            return self.answer_cause(call[1], call[2])
        if call[0] == COMPARE:
            return self.answer_compare(call[1], call[2])
        if call[0] == CHANGE:
            return self.answer_change(call[1], call[2], call[4:])
        if call[0] == TOUCHED:
            return listed(self.touched())
        if call[0] == MARK:
            return self.answer_mark()
        if call[0] == READ:
            return self.answer_read(call[1])
        if call[0] == UNREAD:
            return self.answer_unread(call[1])
        if call[0] == NEXT:
            return self.answer_next()
        return self.answer_size()

    def check_edition(self, number):
        if not 0 <= number < len(self.editions):
            raise NoEdition()

    def check_block(self, topic_number, block_number):
        if not 0 <= topic_number < len(self.book.topics):
            raise NoBlock()
        if not 0 <= block_number < len(self.book.topics[topic_number].blocks):
            raise NoBlock()

    def answer_book(self, text_bytes):
        self.take_book(book_of(text_of(text_bytes)))
        return [len(self.book.topics), len(self.editions)]

    def answer_showbook(self):
        return listed_text("".join([line + LINE_END for line in self.book.lines]))

    def answer_settle(self, number):
        self.check_edition(number)
        return self.values_of(number, settling_places(number, self.editions, self.documents))

    def answer_cause(self, number, other_number):
        self.check_edition(number)
        self.check_edition(other_number)
        chosen = causing_places(number, other_number, self.editions, self.documents)
        return self.values_of(other_number, chosen)

    def values_of(self, number, places):
        told = [len(places)]
        for place in places:
            told.extend(listed_text(self.book.properties[place].name))
            told.extend(listed_text(self.editions[number][place]))
        return told

    def answer_compare(self, number, other_number):
        self.check_edition(number)
        self.check_edition(other_number)
        lines = self.documents[number]
        other_lines = self.documents[other_number]
        common = lines_in_common(lines, other_lines)
        return [len(lines), len(other_lines)] + listed_each([bytes_of(line) for line in common])

    # Where the block stands is looked at before its text is.
    def answer_change(self, topic_number, block_number, text_bytes):
        self.check_block(topic_number, block_number)
        book = changed_book(self.book, topic_number, block_number, text_of(text_bytes))
        documents_before = self.documents
        self.show_book(book)
        return [len(unlike_numbers(documents_before, self.documents))]

    # A change leaves the properties, so the marked book has the same editions.
    def touched(self):
        return unlike_numbers(self.marked_documents, self.documents)

    def answer_mark(self):
        many = len(self.touched())
        self.marked_documents = self.documents
        return [many]

    def answer_read(self, number):
        self.check_edition(number)
        unseen = unseen_of(self.contents[number], self.seen)
        for content in unseen:
            self.seen[content] = True
        return [len(unseen), len(self.seen)]

    def answer_unread(self, number):
        self.check_edition(number)
        unseen = unseen_of(self.contents[number], self.seen)
        told = [len(unseen)]
        for content in unseen:
            told.extend(listed_text(content[0]))
            told.extend(listed_text(block_text_of(content)))
        return told

    def answer_next(self):
        counts = [len(unseen_of(contents, self.seen)) for contents in self.contents]
        most = max(counts)
        return [counts.index(most), most]

    def answer_size(self):
        blocks = sum([len(topic.blocks) for topic in self.book.topics])
        return [len(self.book.topics), blocks, len(self.editions), len(self.seen)]
