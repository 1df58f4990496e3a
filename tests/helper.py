"""Bytes, calls and answers for the tests, and slow counts, made without the program's own code."""

import itertools

from manyhandsdesk.gathering import answers

BOOK_MARK = [70, 76, 66, 49]
COLLECTION_MARK = [70, 76, 67, 49]
COLLECTION_HEAD = 10
RECORD_HEAD = 31
ALL = 2 ** 64 - 1


def low_first(value, size):
    return list(value.to_bytes(size, "little"))


def book_octets(characters, kinds, n=None, how_many_kinds=None):
    """characters: (states, hangs, set) each; kinds: lists of forms, which are lists of sets."""
    body = []
    for states, hangs, applies_in in characters:
        body += low_first(states, 2) + low_first(hangs, 2) + low_first(applies_in, 8)
    for forms in kinds:
        body += low_first(len(forms), 4)
        for form in forms:
            for states in form:
                body += low_first(states, 8)
    n = len(characters) if n is None else n
    how_many_kinds = len(kinds) if how_many_kinds is None else how_many_kinds
    return with_book_head(body, n, how_many_kinds)


def with_book_head(body, n, kinds):
    return BOOK_MARK + low_first(16 + len(body), 4) + low_first(n, 4) + low_first(kinds, 4) + list(body)


def record_octets(hand, number, version=0, day=0, place=(), withdrawn=0, individuals=1, errors=0, sets=(1,)):
    octets = low_first(hand, 4) + low_first(number, 4) + low_first(version, 4) + low_first(day, 4)
    octets += list(place) + [0] * (8 - len(place))
    octets += [withdrawn] + low_first(individuals, 4) + low_first(errors, 2)
    for states in sets:
        octets += low_first(states, 8)
    return octets


def collection_octets(characters, records):
    octets = COLLECTION_MARK + low_first(characters, 2) + low_first(len(records), 4)
    for record in records:
        octets += record
    return octets


def open_book(octets):
    return [1, len(octets)] + list(octets)


def new(characters):
    return [2, characters]


def take(octets):
    return [3, len(octets)] + list(octets)


def put(octets):
    return [4, len(octets)] + list(octets)


def join(octets):
    return [5, len(octets)] + list(octets)


def lacking(octets):
    return [6, len(octets)] + list(octets)


def record(hand, number):
    return [7, hand, number]


def list_of(first, last, place=()):
    return [8, first, last, len(place)] + list(place)


def part(first, last, place=()):
    return [9, first, last, len(place)] + list(place)


def kinds(hand, number):
    return [10, hand, number]


def count(kind, first, last, place=()):
    return [11, kind, first, last, len(place)] + list(place)


def table(first, last, place=()):
    return [12, first, last, len(place)] + list(place)


def odd():
    return [13]


def where(kind):
    return [14, kind]


def bytes_of():
    return [15]


def tally():
    return [16]


def whole():
    """A call that tells the whole collection of one character: all that an empty one lacks."""
    return lacking(collection_octets(1, []))


def told(octets):
    return [0, len(octets)] + list(octets)


def answered(*calls):
    """What is answered to each of the calls, a list each."""
    row = answers([number for call in calls for number in call])
    apart = []
    at = 0
    while at < len(row):
        apart.append(row[at + 1:at + 1 + row[at]])
        at += 1 + row[at]
    return apart


def individuals(characters):
    """All individuals, tried one by one."""
    for row in itertools.product(*[range(states) for states, hangs, applies_in in characters]):
        fits = True
        for state, (states, hangs, applies_in) in zip(row, characters):
            if hangs:
                applies = applies_in >> row[hangs - 1] & 1 == 1
                fits = fits and (state != 0) == applies
        if fits:
            yield row


def is_of(row, forms):
    """Whether the individual is of a kind of these forms."""
    return any(all(states >> state & 1 for state, states in zip(row, form)) for form in forms)


def errors_against(row, sets):
    return sum(1 for state, states in zip(row, sets) if not states >> state & 1)


def slow_kinds(characters, kinds, sets, errors):
    """The kinds that a specimen may be, each with its least errors, by going through all individuals."""
    rows = list(individuals(characters))
    found = []
    for kind, forms in enumerate(kinds):
        least = min(errors_against(row, sets) for row in rows if is_of(row, forms))
        if least <= errors:
            found.append((least, kind))
    return [(kind, least) for least, kind in sorted(found)]


def some_book(chance, most_characters=5, most_states=4, narrow=False):
    """A small book out of chance: its characters and kinds; of narrow forms each set has one state."""
    characters = []
    for k in range(chance.randint(1, most_characters)):
        hangs = chance.randint(0, k)
        applies_in = 0
        while hangs and not applies_in:
            applies_in = chance.randrange(2 ** characters[hangs - 1][0])
            if characters[hangs - 1][1]:
                applies_in &= ~1
        characters.append((chance.randint(2, most_states), hangs, applies_in))
    rows = list(individuals(characters))
    kinds = []
    for k in range(chance.randint(1, 4)):
        forms = []
        for j in range(chance.randint(1, 3)):
            form = [1 << state for state in chance.choice(rows)]
            if not narrow:
                form = [states | some_set(chance, c[0]) for states, c in zip(form, characters)]
            forms.append(form)
        kinds.append(forms)
    return characters, kinds


def some_set(chance, states):
    """A set of the states that is not empty."""
    return chance.randrange(1, 2 ** states)
