"""A second, slow way to the same answers, over Python's own texts and regular expressions.

It shares nothing with the package, so that a slip in one of the two shows.
"""

import re
from functools import lru_cache
from itertools import combinations, product

WORD = "[a-z][a-z0-9]{0,7}"
NO_NAMES = {"props", "topic", "map", "keys", "always", "not", "id", "in", "if"}
PART = re.compile(r"\{key (?P<key>%s)\}|\{link (?P<topic>%s)?(?:#(?P<piece>%s))?\}|\\[{}\\]|[ -\[\]-z|~]"
                  % (WORD, WORD, WORD))
BLOCK = re.compile(r"(?P<kind>h[1-4]|p|item)(?: id (?P<id>%s))?(?: if (?P<cond>[^:]*))?: (?P<line>[^\n]*)" % WORD)
USE = re.compile(r"use (?P<topic>%s)#(?P<piece>%s)(?: id (?P<id>%s))?(?: if (?P<cond>.*))?" % (WORD, WORD, WORD))
ROW = re.compile(r"(?P<level>[1-4]) (?P<topic>%s)(?: in (?P<scope>%s))?(?: if (?P<cond>.*))?" % (WORD, WORD))
KEY = re.compile(r"(?P<name>%s)(?: in (?P<scope>%s))?(?: if (?P<cond>.*?))?(?: = (?P<text>[ -~]{0,40})| -> (?P<topic>%s))"
                 % (WORD, WORD, WORD))
PROPERTY = re.compile(r"(?P<name>%s) = (?P<values>%s(?:\|%s){1,3})" % (WORD, WORD, WORD))


class NoBook(Exception):
    pass


def need(right):
    if not right:
        raise NoBook()


def matched(pattern, line):
    found = pattern.fullmatch(line)
    need(found is not None)
    fields = found.groupdict()
    for field in ("name", "topic", "piece", "id", "scope"):
        need(fields.get(field) not in NO_NAMES)
    return fields


def as_python(cond, props):
    """A condition as a Python expression over e, an edition as a dict."""
    if cond is None:
        return "True"
    need(cond != "always" and "@" not in cond)
    made = []

    def atom(found):
        word = found.group(0)
        if word == "always":
            made.append("True")
        else:
            name, value = word.split("=")
            need(name in props and value in props[name])
            made.append("e[%r] == %r" % (name, value))
        return "@%d@" % (len(made) - 1)

    def reduced(found):
        one, word, other = found.groups()
        made.append("(%s) %s (%s)" % (made[int(one)], word, made[int(other)]))
        return "@%d@" % (len(made) - 1)

    def reduced_not(found):
        made.append("not (%s)" % made[int(found.group(1))])
        return "@%d@" % (len(made) - 1)

    cond = re.sub(r"[a-z0-9]+=[a-z0-9]+|(?<![a-z0-9])always(?![a-z0-9=])", atom, cond)
    while True:
        before = cond
        cond = re.sub(r"(?<![a-z0-9@])not\(@(\d+)@\)", reduced_not, cond, count=1)
        cond = re.sub(r"\(@(\d+)@ (and|or) @(\d+)@\)", reduced, cond, count=1)
        if cond == before:
            break
    need(cond == "@%d@" % (len(made) - 1) and len(made) <= 12)
    return made[-1]


def parts_of(line):
    parts = []
    place = 0
    while place < len(line):
        found = PART.match(line, place)
        need(found is not None and found.group(0) != "{link }")
        parts.append((found.group(0), found.groupdict()))
        need(not NO_NAMES & set(found.groupdict().values()))
        place = found.end()
    need(len(parts) <= 60)
    return parts


def parse_block(line, props):
    if line.startswith("use "):
        fields = matched(USE, line)
        fields["kind"] = "use"
    else:
        fields = matched(BLOCK, line)
        fields["parts"] = parts_of(fields["line"])
    fields["cond"] = as_python(fields["cond"], props)
    return fields


def parse(text):
    need(text.endswith("\n"))
    found = re.fullmatch(r"props\n((?:(?!topic |map\n).*\n)*)((?:(?!map\n).*\n)*)map\n((?:(?!keys\n).*\n)*)keys\n((?:.*\n)*)",
                         text)
    need(found is not None)
    groups = [group.split("\n")[:-1] for group in found.groups()]
    props = {}
    for line in groups[0]:
        fields = matched(PROPERTY, line)
        values = fields["values"].split("|")
        need(fields["name"] not in props and not NO_NAMES & set(values) and len(set(values)) == len(values))
        props[fields["name"]] = values
    editions = [dict(zip(props, values)) for values in product(*props.values())]
    need(len(props) <= 5 and len(editions) <= 200)
    topics = {}
    for line in groups[1]:
        if line.startswith("topic "):
            name = matched(re.compile("topic (?P<name>%s)" % WORD), line)["name"]
            need(name not in topics)
            topics[name] = []
        else:
            topics[name].append(parse_block(line, props))
    rows = [matched(ROW, line) for line in groups[2]]
    keys = [matched(KEY, line) for line in groups[3]]
    for fields in rows + keys:
        fields["cond"] = as_python(fields["cond"], props)
    need(len(topics) <= 8 and len(rows) <= 10 and len(keys) <= 10)
    told = [fields["topic"] for fields in rows + keys]
    for blocks in topics.values():
        need(len(blocks) <= 10)
        for block in blocks:
            told.append(block.get("topic"))
            told.extend(fields["topic"] for _, fields in block.get("parts", []))
    need(all(topic in topics for topic in told if topic is not None))
    return {"props": props, "editions": editions, "topics": topics, "rows": rows, "keys": keys}


def is_there(fields, edition):
    return eval(fields["cond"], {"e": edition})


def resolve(book, edition, topic, block, depth=0):
    if block["kind"] != "use":
        return topic, block
    if depth > 100:
        return topic, {"kind": "ring"}
    for other in book["topics"][block["topic"]]:
        if other["id"] == block["piece"] and is_there(other, edition):
            return resolve(book, edition, block["topic"], other, depth + 1)
    return topic, {"kind": "missing"}


def escape(text):
    return re.sub(r"([{}\\])", r"\\\1", text)


def document(book, edition):
    sections = []
    for row in book["rows"]:
        if is_there(row, edition):
            blocks = []
            for block in book["topics"][row["topic"]]:
                if is_there(block, edition):
                    blocks.append((block["id"],) + resolve(book, edition, row["topic"], block))
            sections.append((row, blocks))

    def topic_link(topic):
        for s, (row, _) in enumerate(sections):
            if row["topic"] == topic:
                return "{%d}" % s
        return "{?}"

    def piece_link(topic, piece):
        for s, (row, blocks) in enumerate(sections):
            for b, block in enumerate(blocks):
                if row["topic"] == topic and block[0] == piece:
                    return "{%d.%d}" % (s, b)
        return "{?}"

    def key_text(name, scope):
        holding = [key for key in book["keys"] if key["name"] == name and is_there(key, edition)]
        asked = [key for key in holding if scope is not None and key["scope"] == scope]
        asked += [key for key in holding if key["scope"] is None]
        if not asked:
            return "{key?}"
        return escape(asked[0]["text"]) if asked[0]["topic"] is None else topic_link(asked[0]["topic"])

    def shown(part, s, written):
        text, fields = part
        if fields["key"]:
            return key_text(fields["key"], sections[s][0]["scope"])
        if fields["piece"] and fields["topic"]:
            return piece_link(fields["topic"], fields["piece"])
        if fields["piece"]:
            for b, block in enumerate(sections[s][1]):
                if block[0] == fields["piece"]:
                    return "{%d.%d}" % (s, b)
            return piece_link(written, fields["piece"])
        return topic_link(fields["topic"]) if fields["topic"] else text

    lines = []
    for s, (row, blocks) in enumerate(sections):
        lines.append(row["level"] + " " + row["topic"])
        for label, written, block in blocks:
            line = block["kind"] + (" id " + label if label else "")
            if block["kind"] not in ("missing", "ring"):
                line += ": " + "".join(shown(part, s, written) for part in block["parts"])
            lines.append(line)
    return tuple(lines)


@lru_cache(maxsize=100000)
def in_common(x, y):
    if not x or not y:
        return ()
    longer = max(in_common(x[1:], y), in_common(x, y[1:]), key=len)
    if x[0] == y[0]:
        both = x[:1] + in_common(x[1:], y[1:])
        if len(both) > len(longer):
            return both
    return longer


def text_told(text):
    return [len(text)] + list(text.encode("latin-1"))


def values_told(pairs):
    return [len(pairs)] + [number for pair in pairs for text in pair for number in text_told(text)]


def contents(book, edition):
    """What an edition shows, as pairs of a topic's name and the text of a block."""
    shown = []
    for row in book["rows"]:
        if is_there(row, edition):
            for block in book["topics"][row["topic"]]:
                topic, found = resolve(book, edition, row["topic"], block)
                pair = (topic, "%s: %s" % (found["kind"], found.get("line")))
                if is_there(block, edition) and "parts" in found and pair not in shown:
                    shown.append(pair)
    return shown


def with_block(text, i, j, block):
    """A book's text with another block, found by walking over its lines; None if there is no such block."""
    lines = text[:-1].split("\n")
    places = []
    for place, line in enumerate(lines[:lines.index("map")]):
        if line.startswith("topic "):
            places.append([])
        elif places:
            places[-1].append(place)
    if i not in range(len(places)) or j not in range(len(places[i])):
        return None
    lines[places[i][j]] = block
    return "\n".join(lines) + "\n"


class Model:
    def __init__(self):
        self.book_taken("props\nmap\nkeys\n")

    def take(self, text):
        book = parse(text)
        self.text = text
        self.book = book
        self.editions = book["editions"]
        self.documents = [document(book, edition) for edition in self.editions]

    def book_taken(self, text):
        self.take(text)
        self.marked = self.book
        self.seen = set()
        return [len(self.book["topics"]), len(self.editions)]

    def changed(self, i, j, block):
        text = with_block(self.text, i, j, block)
        if text is None:
            return [-3]
        parse_block(block, self.book["props"])
        before = self.documents
        self.take(text)
        return [sum(one != other for one, other in zip(before, self.documents))]

    def answer(self, word, *given):
        if word in ("book", "change"):
            try:
                return self.book_taken(*given) if word == "book" else self.changed(*given)
            except NoBook:
                return [-1]
        if any(not 0 <= k < len(self.editions) for k in given):
            return [-2]
        return getattr(self, word)(*given)

    def showbook(self):
        return text_told(self.text)

    def classes(self):
        parted = {}
        for number, made in enumerate(self.documents):
            parted.setdefault(made, []).append(number)
        return [len(parted)] + [n for members in parted.values() for n in [len(members)] + members]

    def matters(self):
        pairs = [(one, other) for one in range(len(self.editions)) for other in range(one)]
        found = []
        for number, name in enumerate(self.book["props"]):
            for one, other in pairs:
                unlike = [p for p in self.book["props"] if self.editions[one][p] != self.editions[other][p]]
                if unlike == [name] and self.documents[one] != self.documents[other]:
                    found.append(number)
                    break
        return [len(found)] + found

    def settle(self, k):
        for many in range(6):
            for names in combinations(self.book["props"], many):
                values = [(name, self.editions[k][name]) for name in names]
                made = {self.documents[n] for n, edition in enumerate(self.editions)
                        if set(values) <= set(edition.items())}
                if made == {self.documents[k]}:
                    return values_told(values)
        raise AssertionError()

    def cause(self, k, l):
        unlike = [name for name in self.book["props"] if self.editions[k][name] != self.editions[l][name]]
        for many in range(6):
            for names in combinations(unlike, many):
                values = [(name, self.editions[l][name]) for name in names]
                mixed = {**self.editions[k], **dict(values)}
                if document(self.book, mixed) == self.documents[l]:
                    return values_told(values)
        raise AssertionError()

    def compare(self, k, l):
        common = in_common(self.documents[k], self.documents[l])
        told = [len(self.documents[k]), len(self.documents[l]), len(common)]
        return told + [number for line in common for number in text_told(line)]

    def touched(self):
        found = [n for n, edition in enumerate(self.editions) if document(self.marked, edition) != self.documents[n]]
        return [len(found)] + found

    def mark(self):
        many = self.touched()[0]
        self.marked = self.book
        return [many]

    def unseen(self, k):
        return [pair for pair in contents(self.book, self.editions[k]) if pair not in self.seen]

    def read(self, k):
        new = self.unseen(k)
        self.seen |= set(new)
        return [len(new), len(self.seen)]

    def unread(self, k):
        return values_told(self.unseen(k))

    def next(self):
        most, k = max((len(self.unseen(k)), -k) for k in range(len(self.editions)))
        return [-k, most]

    def size(self):
        blocks = sum(map(len, self.book["topics"].values()))
        return [len(self.book["topics"]), blocks, len(self.editions), len(self.seen)]
