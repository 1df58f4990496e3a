"""Places and records: how a record is read, and when it counts."""

from manyhandsdesk.bounds import ALL_STATES
from manyhandsdesk.reading import Reader
from manyhandsdesk.refusals import WrongBytes

PLACE_SIZE = 8
MOST_INDIVIDUALS = 1048576
MOST_ERRORS = 256

BOUNDS_RULE = 2
PLACE_RULE = 3
END_RULE = 5


class Record:
    """What one hand wrote under one number, and its bytes."""

    def __init__(self, reader, characters):
        """Reads it, with as many sets as there are characters."""
        start = reader.at
        self.hand = reader.read_number(4)
        self.number = reader.read_number(4)
        self.version = reader.read_number(4)
        self.day = reader.read_number(4)
        self.place = read_place(reader)
        self.withdrawn = reader.read_within(1, 0, 1, BOUNDS_RULE) == 1
        self.individuals = reader.read_within(4, 1, MOST_INDIVIDUALS, BOUNDS_RULE)
        self.errors = reader.read_within(2, 0, MOST_ERRORS, BOUNDS_RULE)
        self.sets = read_sets(reader, characters)
        self.octets = reader.octets[start:reader.at]

    def name(self):
        """What tells it apart; names are in order as the records of a collection are."""
        return (self.hand, self.number)

    def is_greater(self, other):
        """Whether it is the greater of the two, which are of one hand and number."""
        if self.version != other.version:
            return self.version > other.version
        return self.octets > other.octets

    def counts(self, first, last, place):
        """Whether it counts for the days from first to last and the place."""
        return not self.withdrawn and first <= self.day <= last and lies_within(self.place, place)


def is_place(row):
    return len(row) <= PLACE_SIZE and 0 not in row


def lies_within(inner, outer):
    return inner[:len(outer)] == outer


def read_place(reader):
    start = reader.at
    place = []
    for k, octet in enumerate(reader.read_octets(PLACE_SIZE)):
        if octet != 0:
            if len(place) < k:
                raise WrongBytes(PLACE_RULE, start + k)
            place.append(octet)
    return place


def read_sets(reader, characters):
    sets = []
    for k in range(characters):
        sets.append(reader.read_within(8, 1, ALL_STATES, BOUNDS_RULE))
    return sets


def read_record_alone(octets, characters):
    reader = Reader(octets, END_RULE)
    record = Record(reader, characters)
    reader.finish()
    return record
