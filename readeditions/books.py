"""A book: its properties, topics, map and keys, read from its text."""

from readeditions.blocks import LINK, USE, block_of
from readeditions.conditions import condition_behind_if, values_told
from readeditions.texts import Scanner, escaped, lines_of, require

MOST_PROPERTIES = 5
FEWEST_CHOICES = 2
MOST_CHOICES = 4
MOST_EDITIONS = 200
MOST_TOPICS = 8
MOST_BLOCKS = 10
MOST_ROWS = 10
MOST_KEYS = 10
LONGEST_MEANING = 40
LEVELS = ("1", "2", "3", "4")


class Property:
    def __init__(self, name, choices):
        self.name = name
        self.choices = choices


class Topic:
    def __init__(self, name):
        self.name = name
        self.blocks = []


class Row:
    def __init__(self, level, topic, scope, condition):
        self.level = level
        self.topic = topic
        self.scope = scope
        self.condition = condition


# A key means a topic, or (if that is the empty text) its meaning, written as a line shows it.
class Key:
    def __init__(self, name, scope, condition, meaning, topic):
        self.name = name
        self.scope = scope
        self.condition = condition
        self.meaning = meaning
        self.topic = topic


# A book has just one text, so the lines that it was read from are its lines.
class Book:
    def __init__(self, lines, properties, topics, rows, told_keys):
        self.lines = lines
        self.properties = properties
        self.topics = topics
        self.rows = rows
        self.told_keys = told_keys


def book_of(text):
    return book_of_lines(lines_of(text))


def book_of_lines(lines):
    require(len(lines) > 0 and lines[0] == "props")
    map_place = place_of(lines, "map")
    keys_place = place_of(lines, "keys")
    topics_place = first_topic_place(lines, map_place)
    properties = [property_of(line) for line in lines[1:topics_place]]
    topics = topics_of(lines[topics_place:map_place])
    rows = [row_of(line) for line in lines[map_place + 1:keys_place]]
    told_keys = [key_of(line) for line in lines[keys_place + 1:]]
    book = Book(lines, properties, topics, rows, told_keys)
    check_sizes(book)
    check_names(book)
    check_conditions(book)
    check_topics_told(book)
    return book


# In the place of a block a line of another kind could make another book, so the block is read by itself first.
def changed_book(book, topic_number, block_number, block_text):
    block_of(block_text)
    lines = list(book.lines)
    lines[block_place(book, topic_number, block_number)] = block_text
    return book_of_lines(lines)


def block_place(book, topic_number, block_number):
    place = 1 + len(book.properties)
    for topic in book.topics[:topic_number]:
        place += 1 + len(topic.blocks)
    return place + 1 + block_number


# Only the line of this word itself can be like it, so the first such line is the one.
def place_of(lines, word):
    require(word in lines)
    return lines.index(word)


def first_topic_place(lines, map_place):
    for place in range(map_place):
        if starts_topic(lines[place]):
            return place
    return map_place


def starts_topic(line):
    return line.startswith("topic ")


def property_of(line):
    scan = Scanner(line)
    name = scan.name_here()
    scan.must_take(" = ")
    choices = [scan.name_here()]
    while scan.takes("|"):
        choices.append(scan.name_here())
    scan.must_end()
    return Property(name, choices)


def topics_of(lines):
    topics = []
    for line in lines:
        if starts_topic(line):
            topics.append(Topic(topic_name_of(line)))
        else:
            topics[-1].blocks.append(block_of(line))
    return topics


def topic_name_of(line):
    scan = Scanner(line)
    scan.must_take("topic ")
    name = scan.name_here()
    scan.must_end()
    return name


def row_of(line):
    scan = Scanner(line)
    level = scan.word_here()
    require(level in LEVELS)
    scan.must_take(" ")
    topic = scan.name_here()
    scope = scan.name_behind(" in ")
    condition = condition_behind_if(scan)
    scan.must_end()
    return Row(level, topic, scope, condition)


def key_of(line):
    scan = Scanner(line)
    name = scan.name_here()
    scope = scan.name_behind(" in ")
    condition = condition_behind_if(scan)
    if scan.takes(" = "):
        return Key(name, scope, condition, meaning_here(scan), "")
    scan.must_take(" -> ")
    topic = scan.name_here()
    scan.must_end()
    return Key(name, scope, condition, "", topic)


def meaning_here(scan):
    meaning = scan.rest()
    require(len(meaning) <= LONGEST_MEANING)
    return escaped(meaning)


def editions_counted(properties):
    counted = 1
    for told in properties:
        counted *= len(told.choices)
    return counted


def check_sizes(book):
    require(len(book.properties) <= MOST_PROPERTIES)
    for told in book.properties:
        require(FEWEST_CHOICES <= len(told.choices) <= MOST_CHOICES)
    require(editions_counted(book.properties) <= MOST_EDITIONS)
    require(len(book.topics) <= MOST_TOPICS)
    for topic in book.topics:
        require(len(topic.blocks) <= MOST_BLOCKS)
    require(len(book.rows) <= MOST_ROWS)
    require(len(book.told_keys) <= MOST_KEYS)


def check_names(book):
    require_each_once([told.name for told in book.properties])
    for told in book.properties:
        require_each_once(told.choices)
    require_each_once([topic.name for topic in book.topics])


def require_each_once(names):
    require(len(set(names)) == len(names))


def check_conditions(book):
    choices_of = {}
    for told in book.properties:
        choices_of[told.name] = told.choices
    for condition in conditions_told(book):
        for pair in values_told(condition):
            require(pair[0] in choices_of and pair[1] in choices_of[pair[0]])


def conditions_told(book):
    told = [row.condition for row in book.rows]
    told.extend([key.condition for key in book.told_keys])
    for topic in book.topics:
        told.extend([block.condition for block in topic.blocks])
    return told


def check_topics_told(book):
    names = [topic.name for topic in book.topics]
    told = [row.topic for row in book.rows]
    told.extend([key.topic for key in book.told_keys if key.topic])
    for topic in book.topics:
        for block in topic.blocks:
            told.extend(topics_told_in(block))
    require(all([name in names for name in told]))


def topics_told_in(block):
    if block.kind == USE:
        return [block.used[0]]
    return [part[1] for part in block.parts if part[0] == LINK and part[1]]
