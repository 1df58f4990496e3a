"""Bytes, calls and answers for the tests, made without the program's own code."""

from manyhandsdesk.gathering import answers

BOOK_MARK = [70, 76, 66, 49]
COLLECTION_MARK = [70, 76, 67, 49]
COLLECTION_HEAD = 10
RECORD_HEAD = 31
ALL = 2 ** 64 - 1


def low_first(value, size):
    return list(value.to_bytes(size, "little"))


def book_octets(characters, kinds, n=None, how_many_kinds=None):
    """characters: (states, hangs, set) each; kinds: lists of forms, which are lists of sets."""
    body = []
    for states, hangs, applies_in in characters:
        body += low_first(states, 2) + low_first(hangs, 2) + low_first(applies_in, 8)
    for forms in kinds:
        body += low_first(len(forms), 4)
        for form in forms:
            for states in form:
                body += low_first(states, 8)
    n = len(characters) if n is None else n
    how_many_kinds = len(kinds) if how_many_kinds is None else how_many_kinds
    return with_book_head(body, n, how_many_kinds)


def with_book_head(body, n, kinds):
    return BOOK_MARK + low_first(16 + len(body), 4) + low_first(n, 4) + low_first(kinds, 4) + list(body)


def record_octets(hand, number, version=0, day=0, place=(), withdrawn=0, individuals=1, errors=0, sets=(1,)):
    octets = low_first(hand, 4) + low_first(number, 4) + low_first(version, 4) + low_first(day, 4)
    octets += list(place) + [0] * (8 - len(place))
    octets += [withdrawn] + low_first(individuals, 4) + low_first(errors, 2)
    for states in sets:
        octets += low_first(states, 8)
    return octets


def collection_octets(characters, records):
    octets = COLLECTION_MARK + low_first(characters, 2) + low_first(len(records), 4)
    for record in records:
        octets += record
    return octets


def open_book(octets):
    return [1, len(octets)] + list(octets)


def new(characters):
    return [2, characters]


def take(octets):
    return [3, len(octets)] + list(octets)


def put(octets):
    return [4, len(octets)] + list(octets)


def join(octets):
    return [5, len(octets)] + list(octets)


def lacking(octets):
    return [6, len(octets)] + list(octets)


def record(hand, number):
    return [7, hand, number]


def list_of(first, last, place=()):
    return [8, first, last, len(place)] + list(place)


def whole():
    """A call that tells the whole collection of one character: all that an empty one lacks."""
    return lacking(collection_octets(1, []))


def told(octets):
    return [0, len(octets)] + list(octets)


def answered(*calls):
    """What is answered to each of the calls, a list each."""
    row = answers([number for call in calls for number in call])
    apart = []
    at = 0
    while at < len(row):
        apart.append(row[at + 1:at + 1 + row[at]])
        at += 1 + row[at]
    return apart
