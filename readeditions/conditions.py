"""Conditions: how they are written, what they tell, and in which editions they hold.

A condition is a tuple: its kind, and then a property's name and a value, or the conditions in it.
"""

from readeditions.texts import is_name, require

ALWAYS = "always"
HAS = "has"
NOT = "not"
AND = "and"
OR = "or"
MOST_NODES = 12


def conditions_within(condition):
    return condition[1:] if condition[0] in (NOT, AND, OR) else ()


def nodes_in(condition):
    return 1 + sum([nodes_in(inner) for inner in conditions_within(condition)])


# The nodes that are left also bound how deep this goes: a wrong text may nest thousands.
def condition_here(scan, left):
    require(left >= 1)
    if scan.takes("("):
        return pair_here(scan, left - 1)
    word = scan.word_here()
    if word == "always":
        return (ALWAYS,)
    if word == "not":
        scan.must_take("(")
        inner = condition_here(scan, left - 1)
        scan.must_take(")")
        return (NOT, inner)
    require(is_name(word))
    scan.must_take("=")
    return (HAS, word, scan.name_here())


def pair_here(scan, left):
    first = condition_here(scan, left)
    kind = AND if scan.takes(" and ") else OR
    if kind == OR:
        scan.must_take(" or ")
    second = condition_here(scan, left - nodes_in(first))
    scan.must_take(")")
    return (kind, first, second)


# A condition that is always is left out where it may be, so it is never written there.
def condition_behind_if(scan):
    if not scan.takes(" if "):
        return (ALWAYS,)
    condition = condition_here(scan, MOST_NODES)
    require(condition != (ALWAYS,))
    return condition


def values_told(condition):
    if condition[0] == HAS:
        return [condition[1:]]
    told = []
    for inner in conditions_within(condition):
        told.extend(values_told(inner))
    return told


def holds(condition, value_of):
    kind = condition[0]
    if kind == ALWAYS:
        return True
    if kind == HAS:
        return value_of[condition[1]] == condition[2]
    if kind == NOT:
        return not holds(condition[1], value_of)
    if kind == AND:
        return holds(condition[1], value_of) and holds(condition[2], value_of)
    return holds(condition[1], value_of) or holds(condition[2], value_of)
