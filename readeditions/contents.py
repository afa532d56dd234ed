"""Contents: what an edition shows, and what of it a reader has not seen.

A content is a tuple: the name of the topic in which its block was written, the block's kind, and its line.
Seen contents are the keys of a dict.
"""

from readeditions.documents import MISSING, RING


def contents_of(sections):
    shown = {}
    for section in sections:
        for block in section.blocks:
            if block.kind not in (MISSING, RING):
                shown[(block.written_in, block.kind, block.line)] = True
    return list(shown)


def unseen_of(contents, seen):
    return [content for content in contents if content not in seen]


def block_text_of(content):
    return content[1] + ": " + content[2]
