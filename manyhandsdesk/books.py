"""Books: characters, kinds and their forms, and how a book's bytes are judged."""

from manyhandsdesk.bounds import ALL_STATES, MOST_CHARACTERS
from manyhandsdesk.reading import Reader
from manyhandsdesk.refusals import WrongBytes

MARK = (70, 76, 66, 49)
HEAD_SIZE = 16
MOST_KINDS = 4096
MOST_STATES = 64
MOST_FORMS = 16

BYTES_RULE = 1
BOUNDS_RULE = 2
CHARACTER_RULE = 3
FORMS_RULE = 4
SET_RULE = 5
INDIVIDUAL_RULE = 6


class Character:
    """Its number of states; the character that it hangs on (None if it is free), with the set of that one's states."""

    def __init__(self, states, parent, applies_in):
        self.states = states
        self.parent = parent
        self.applies_in = applies_in


class Book:
    """Characters, and of each kind its forms: rows of sets of states."""

    def __init__(self, characters, forms_of):
        self.characters = characters
        self.forms_of = forms_of
        # Call after call asks about the same sets: the kinds' least errors that were found, by the sets.
        self.found = {}


def read_book(octets):
    reader = Reader(octets, BYTES_RULE)
    if len(octets) < HEAD_SIZE or reader.read_octets(len(MARK)) != list(MARK):
        raise WrongBytes(BYTES_RULE, 0)
    reader.read_within(4, len(octets), len(octets), BYTES_RULE)
    how_many_characters = reader.read_within(4, 1, MOST_CHARACTERS, BOUNDS_RULE)
    how_many_kinds = reader.read_within(4, 1, MOST_KINDS, BOUNDS_RULE)
    characters = []
    for k in range(how_many_characters):
        characters.append(read_character(reader, characters))
    forms_of = []
    for k in range(how_many_kinds):
        forms_of.append(read_kind(reader, characters))
    reader.finish()
    return Book(characters, forms_of)


def read_character(reader, earlier):
    states = reader.read_within(2, 2, MOST_STATES, CHARACTER_RULE)
    hangs = reader.read_within(2, 0, len(earlier), CHARACTER_RULE)
    start = reader.at
    applies_in = reader.read_number(8)
    if hangs == 0:
        if applies_in != 0:
            raise WrongBytes(CHARACTER_RULE, start)
        return Character(states, None, 0)
    if not can_hang(earlier[hangs - 1], applies_in):
        raise WrongBytes(CHARACTER_RULE, start)
    return Character(states, hangs - 1, applies_in)


def can_hang(parent, applies_in):
    """Whether a character can hang on that one with this set."""
    if not is_set_of(parent, applies_in):
        return False
    # State 0 of a parent that hangs itself says that the parent doesn't apply: nothing applies there.
    return parent.parent is None or applies_in & 1 == 0


def is_set_of(character, states):
    """Whether the set has a state, and none that the character hasn't."""
    return states != 0 and states >> character.states == 0


def read_kind(reader, characters):
    how_many_forms = reader.read_within(4, 1, MOST_FORMS, FORMS_RULE)
    forms = []
    for k in range(how_many_forms):
        forms.append(read_form(reader, characters))
    return forms


def read_form(reader, characters):
    form_start = reader.at
    form = []
    for character in characters:
        set_start = reader.at
        states = reader.read_number(8)
        if not is_set_of(character, states):
            raise WrongBytes(SET_RULE, set_start)
        form.append(states)
    if not has_individual(characters, form):
        raise WrongBytes(INDIVIDUAL_RULE, form_start)
    return form


def has_individual(characters, form):
    # From the last to the first: what hangs on a character comes behind it, so once a character is come to,
    # its set has only the states left with which all that hang on it can have a state of their own sets.
    left = list(form)
    for k in range(len(characters) - 1, -1, -1):
        if left[k] == 0:
            return False
        parent = characters[k].parent
        if parent is not None:
            left[parent] = left[parent] & parent_states(characters[k], left[k])
    return True


def parent_states(character, left):
    """The parent's states with which a character that hangs on it can have one of the states left."""
    allowed = 0
    if left & 1 != 0:
        allowed = ALL_STATES ^ character.applies_in
    if left >> 1 != 0:
        allowed = allowed | character.applies_in
    return allowed
