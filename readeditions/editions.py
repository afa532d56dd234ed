"""Editions as tuples of values, one for each property, and what tells them apart.

Documents are the lines of each edition, in the editions' order.
"""


def editions_of(properties):
    editions = [()]
    for told in properties:
        longer = []
        for edition in editions:
            longer.extend([edition + (value,) for value in told.choices])
        editions = longer
    return editions


def classes_of(documents):
    class_of = {}
    for number, made in enumerate(documents):
        class_of.setdefault(made, []).append(number)
    return list(class_of.values())


def unlike_numbers(documents, other_documents):
    pairs = list(zip(documents, other_documents))
    return [number for number, pair in enumerate(pairs) if pair[0] != pair[1]]


def hanging_properties(editions, documents):
    places = range_of(editions[0])
    return [place for place in places if hangs_on(place, editions, documents)]


def range_of(edition):
    return list(range(len(edition)))


# Editions with the same other values are unlike in this property alone.
def hangs_on(place, editions, documents):
    first_made = {}
    for edition, made in zip(editions, documents):
        others = edition[:place] + edition[place + 1:]
        if first_made.setdefault(others, made) != made:
            return True
    return False


def choices_in_order(places):
    choices = []
    for many in range(len(places) + 1):
        choices.extend(choices_of_many(places, many))
    return choices


def choices_of_many(places, many):
    if many == 0:
        return [[]]
    choices = []
    for at, place in enumerate(places):
        for behind in choices_of_many(places[at + 1:], many - 1):
            choices.append([place] + behind)
    return choices


# All properties together always settle: then the edition itself is the only one left.
def settling_places(number, editions, documents):
    places = range_of(editions[number])
    for chosen in choices_in_order(places):
        if settles(chosen, number, editions, documents):
            return chosen
    return places


def settles(chosen, number, editions, documents):
    for edition, made in zip(editions, documents):
        if made != documents[number] and same_at(chosen, edition, editions[number]):
            return False
    return True


def same_at(places, edition, other):
    return all([edition[place] == other[place] for place in places])


# All the properties in which the two are unlike make the difference: then one becomes the other.
def causing_places(number, other_number, editions, documents):
    edition = editions[number]
    other = editions[other_number]
    unlike = [place for place in range_of(edition) if edition[place] != other[place]]
    for chosen in choices_in_order(unlike):
        mixed = editions.index(with_values_of(other, chosen, edition))
        if documents[mixed] == documents[other_number]:
            return chosen
    return unlike


def with_values_of(other, chosen, edition):
    return tuple([other[place] if place in chosen else edition[place] for place in range_of(edition)])
