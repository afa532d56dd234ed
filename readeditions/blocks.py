"""A topic's blocks, and the parts of their lines.

A part is a tuple: SIGNS and the signs as a text has them, KEY and a name, or LINK, a topic and an id
(the empty text where there is none).
"""

from readeditions.conditions import condition_behind_if
from readeditions.texts import BACKSLASH, ESCAPED_SIGNS, LINE_END, Scanner, require

USE = "use"
KINDS = ("h1", "h2", "h3", "h4", "p", "item", "use")
MOST_PARTS = 60
SIGNS = "signs"
KEY = "key"
LINK = "link"


# The line as it is written, and its parts; a use has an empty one, and used: a topic and an id.
class Block:
    def __init__(self, kind, used, label, condition, line, parts):
        self.kind = kind
        self.used = used
        self.label = label
        self.condition = condition
        self.line = line
        self.parts = parts


def block_of(text):
    scan = Scanner(text)
    kind = scan.word_here()
    require(kind in KINDS)
    used = piece_here(scan) if kind == USE else ()
    label = scan.name_behind(" id ")
    condition = condition_behind_if(scan)
    if kind == USE:
        scan.must_end()
        return Block(kind, used, label, condition, "", [])
    scan.must_take(": ")
    line = scan.rest()
    return Block(kind, used, label, condition, line, parts_here(scan))


def piece_here(scan):
    scan.must_take(" ")
    topic = scan.name_here()
    scan.must_take("#")
    return (topic, scan.name_here())


def parts_here(scan):
    parts = []
    while not scan.at_end():
        require(len(parts) < MOST_PARTS)
        parts.append(part_here(scan))
    return with_signs_joined(parts)


def part_here(scan):
    if scan.takes("{key "):
        name = scan.name_here()
        scan.must_take("}")
        return (KEY, name)
    if scan.takes("{link "):
        return link_here(scan)
    return (SIGNS, written_sign_here(scan))


def link_here(scan):
    if scan.takes("#"):
        link = (LINK, "", scan.name_here())
    else:
        topic = scan.name_here()
        link = (LINK, topic, scan.name_behind("#"))
    scan.must_take("}")
    return link


def written_sign_here(scan):
    behind_backslash = scan.takes(BACKSLASH)
    sign = scan.sign_here()
    require(sign != LINE_END and behind_backslash == (sign in ESCAPED_SIGNS))
    return BACKSLASH + sign if behind_backslash else sign


# Every edition shows each line anew: a run of signs is then one step, not one for each sign.
def with_signs_joined(parts):
    joined = []
    for part in parts:
        if part[0] == SIGNS and joined and joined[-1][0] == SIGNS:
            joined[-1] = (SIGNS, joined[-1][1] + part[1])
        else:
            joined.append(part)
    return joined
