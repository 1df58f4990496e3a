"""The calls on one desk, as one list of whole numbers, and what is answered to them."""

from manyhandsdesk.books import read_book
from manyhandsdesk.bounds import MOST_CHARACTERS
from manyhandsdesk.collected import Collection, collection_octets, read_collection
from manyhandsdesk.records import is_place, read_record_alone
from manyhandsdesk.refusals import NoneSuch, NothingThere, TooMuch, WrongArgument, WrongBytes

MOST_BOOK_OCTETS = 1048576

# Of each call, by its number: how many whole numbers it has, and how many rows stand behind them.
SHAPES = {1: (0, 1), 2: (1, 0), 3: (0, 1), 4: (0, 1), 5: (0, 1), 6: (0, 1), 7: (2, 0), 8: (2, 1)}


class Desk:
    """The book that is open and the collection, None where there is none; each call gives what it tells."""

    def __init__(self):
        self.book = None
        self.collection = None

    def open_book(self, octets):
        if len(octets) > MOST_BOOK_OCTETS:
            raise TooMuch()
        self.book = read_book(octets)
        return []

    def new(self, characters):
        if characters < 1 or characters > MOST_CHARACTERS:
            raise WrongArgument()
        self.collection = Collection(characters)
        return []

    def take(self, octets):
        self.collection = read_collection(octets)
        return []

    def put(self, octets):
        mine = self.own_collection()
        mine.put_in([read_record_alone(octets, mine.characters)])
        return []

    def join(self, octets):
        mine = self.own_collection()
        mine.put_in(self.read_alike(octets).in_order())
        return []

    def lacking(self, octets):
        mine = self.own_collection()
        other = self.read_alike(octets)
        lacked = [record for record in mine.in_order() if other.lacks(record)]
        return with_length(collection_octets(mine.characters, lacked))

    def record(self, hand, number):
        found = self.own_collection().records.get((hand, number))
        if found is None:
            raise NoneSuch()
        return with_length(found.octets)

    def list_of(self, first, last, place):
        mine = self.own_collection()
        if first > last or not is_place(place):
            raise WrongArgument()
        listed = []
        for record in mine.in_order():
            if record.counts(first, last, place):
                listed.extend([record.hand, record.number])
        return with_length(listed)

    def own_collection(self):
        if self.collection is None:
            raise NothingThere()
        return self.collection

    def read_alike(self, octets):
        """The collection of these bytes, which must have as many characters as the desk's own."""
        other = read_collection(octets)
        if other.characters != self.collection.characters:
            raise NoneSuch()
        return other


def with_length(row):
    return [len(row)] + row


def answers(calls):
    desk = Desk()
    answered = []
    at = 0
    while at < len(calls):
        end = call_end(calls, at)
        answered.extend(with_length(answer(desk, calls[at:end])))
        at = end
    return answered


def call_end(calls, at):
    """Where the call ends that begins there."""
    shape = SHAPES[calls[at]]
    end = at + 1 + shape[0]
    for k in range(shape[1]):
        end = end + 1 + calls[end]
    return end


def answer(desk, call):
    try:
        told = told_by(desk, call)
    except NothingThere:
        return [-9]
    except WrongArgument:
        return [-1]
    except WrongBytes as e:
        return [-5, e.rule, e.place]
    except NoneSuch:
        return [-2]
    except TooMuch:
        return [-6]
    return [0] + told


def told_by(desk, call):
    """Makes the call; its row, if it has one, stands behind its whole numbers and the row's length."""
    row = call[2 + SHAPES[call[0]][0]:]
    if call[0] == 1:
        return desk.open_book(row)
    if call[0] == 2:
        return desk.new(call[1])
    if call[0] == 3:
        return desk.take(row)
    if call[0] == 4:
        return desk.put(row)
    if call[0] == 5:
        return desk.join(row)
    if call[0] == 6:
        return desk.lacking(row)
    if call[0] == 7:
        return desk.record(call[1], call[2])
    return desk.list_of(call[1], call[2], row)
