"""Collections: their records, how they are joined, and their bytes."""

from manyhandsdesk.bounds import MOST_CHARACTERS
from manyhandsdesk.reading import Reader, number_octets
from manyhandsdesk.records import BOUNDS_RULE, END_RULE, Record
from manyhandsdesk.refusals import TooMuch, WrongBytes

MARK = (70, 76, 67, 49)
MOST_RECORDS = 1048576

MARK_RULE = 1
ORDER_RULE = 4


class Collection:
    """A number of characters, and records by their names."""

    def __init__(self, characters):
        self.characters = characters
        self.records = {}

    def in_order(self):
        return [self.records[name] for name in sorted(self.records)]

    def not_withdrawn(self):
        return [record for record in self.in_order() if not record.withdrawn]

    def goes_with(self, book):
        """Whether it has as many characters as the book, and no record's set a state that its character hasn't."""
        if self.characters != len(book.characters):
            return False
        for record in self.records.values():
            for states, character in zip(record.sets, book.characters):
                if states >> character.states != 0:
                    return False
        return True

    def lacks(self, record):
        """Whether it has no record of that hand and number, or a lesser one."""
        mine = self.records.get(record.name())
        return mine is None or record.is_greater(mine)

    def put_in(self, records):
        """Puts in records of different names: all of them, or none if they come to too many."""
        lacked = [record for record in records if self.lacks(record)]
        added = [record for record in lacked if record.name() not in self.records]
        if len(self.records) + len(added) > MOST_RECORDS:
            raise TooMuch()
        for record in lacked:
            self.records[record.name()] = record


def read_collection(octets):
    reader = Reader(octets, END_RULE)
    for octet in MARK:
        reader.read_within(1, octet, octet, MARK_RULE)
    collection = Collection(reader.read_within(2, 1, MOST_CHARACTERS, BOUNDS_RULE))
    how_many = reader.read_within(4, 0, MOST_RECORDS, BOUNDS_RULE)
    before = None
    for k in range(how_many):
        start = reader.at
        record = Record(reader, collection.characters)
        if before is not None and record.name() <= before.name():
            raise WrongBytes(ORDER_RULE, start)
        collection.records[record.name()] = record
        before = record
    reader.finish()
    return collection


def collection_octets(characters, records):
    """The bytes of the collection that has these records, which are in order."""
    octets = list(MARK) + number_octets(characters, 2) + number_octets(len(records), 4)
    for record in records:
        octets.extend(record.octets)
    return octets
