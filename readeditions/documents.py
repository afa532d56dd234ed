"""The document that an edition makes: its sections, where its links lead, and its lines."""

from readeditions.blocks import KEY, SIGNS, USE
from readeditions.conditions import holds

MISSING = "missing"
RING = "ring"


class Section:
    def __init__(self, row, blocks):
        self.level = row.level
        self.topic = row.topic
        self.scope = row.scope
        self.blocks = blocks


# What stands at a block's place in a section, and the topic in which that was written.
class Standing:
    def __init__(self, kind, label, line, parts, written_in):
        self.kind = kind
        self.label = label
        self.line = line
        self.parts = parts
        self.written_in = written_in


# All that the parts of a section's lines are shown by, each as the text that is shown.
class Reach:
    def __init__(self, to_topics, to_pieces, to_own, meanings):
        self.to_topics = to_topics
        self.to_pieces = to_pieces
        self.to_own = to_own
        self.meanings = meanings


def document_lines(book, value_of, sections):
    told_keys = [key for key in book.told_keys if holds(key.condition, value_of)]
    to_topics = links_to_topics(sections)
    to_pieces = links_to_pieces(sections)
    lines = []
    for number, section in enumerate(sections):
        to_own = links_to_own(section, number)
        reach = Reach(to_topics, to_pieces, to_own, meanings_in(section.scope, told_keys, to_topics))
        lines.append(section.level + " " + section.topic)
        lines.extend([block_line(block, reach) for block in section.blocks])
    return lines


def sections_of(book, value_of):
    there = blocks_there(book.topics, value_of)
    sections = []
    for row in book.rows:
        if holds(row.condition, value_of):
            blocks = [standing_of(block, row.topic, there) for block in there[row.topic]]
            sections.append(Section(row, blocks))
    return sections


def blocks_there(topics, value_of):
    there = {}
    for topic in topics:
        there[topic.name] = [block for block in topic.blocks if holds(block.condition, value_of)]
    return there


# A use comes again just if a piece is asked for again, as a piece is one block in an edition.
def standing_of(block, topic, there):
    found = block
    written_in = topic
    asked = []
    while found.kind == USE:
        if found.used in asked:
            return Standing(RING, block.label, "", [], written_in)
        asked.append(found.used)
        written_in = found.used[0]
        found = piece_of(there[written_in], found.used[1])
        if found is None:
            return Standing(MISSING, block.label, "", [], written_in)
    return Standing(found.kind, block.label, found.line, found.parts, written_in)


def piece_of(blocks, label):
    for block in blocks:
        if block.label == label:
            return block
    return None


def link_shown(numbers):
    return "{" + ".".join([str(number) for number in numbers]) + "}"


def links_to_topics(sections):
    shown = {}
    for number, section in enumerate(sections):
        shown.setdefault(section.topic, link_shown([number]))
    return shown


def links_to_pieces(sections):
    shown = {}
    for number, section in enumerate(sections):
        own = links_to_own(section, number)
        for label in own:
            shown.setdefault((section.topic, label), own[label])
    return shown


def links_to_own(section, number):
    shown = {}
    for place, block in enumerate(section.blocks):
        if block.label:
            shown.setdefault(block.label, link_shown([number, place]))
    return shown


# The section's scope goes first: what it tells of a name is not told anew by keys without one.
def meanings_in(scope, told_keys, to_topics):
    meanings = {}
    for asked_scope in (scope, ""):
        for key in told_keys:
            if key.scope == asked_scope and key.name not in meanings:
                meanings[key.name] = meaning_shown(key, to_topics)
    return meanings


def meaning_shown(key, to_topics):
    return shown_or_nowhere(to_topics, key.topic) if key.topic else key.meaning


def shown_or_nowhere(links, aim):
    return links[aim] if aim in links else "{?}"


def block_line(block, reach):
    line = block.kind + " id " + block.label if block.label else block.kind
    if block.kind in (MISSING, RING):
        return line
    return line + ": " + "".join([part_shown(part, block.written_in, reach) for part in block.parts])


def part_shown(part, written_in, reach):
    if part[0] == SIGNS:
        return part[1]
    if part[0] == KEY:
        return reach.meanings[part[1]] if part[1] in reach.meanings else "{key?}"
    return link_part_shown(part[1], part[2], written_in, reach)


def link_part_shown(topic, label, written_in, reach):
    if not label:
        return shown_or_nowhere(reach.to_topics, topic)
    if topic:
        return shown_or_nowhere(reach.to_pieces, (topic, label))
    if label in reach.to_own:
        return reach.to_own[label]
    return shown_or_nowhere(reach.to_pieces, (written_in, label))
