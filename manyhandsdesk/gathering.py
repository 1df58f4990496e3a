"""The calls on one desk, as one list of whole numbers, and what is answered to them."""

from manyhandsdesk.agreement import kinds_by_errors, kinds_of
from manyhandsdesk.books import read_book
from manyhandsdesk.bounds import MOST_CHARACTERS
from manyhandsdesk.collected import Collection, collection_octets, read_collection
from manyhandsdesk.counting import bounds_by_kind, places_of_kind
from manyhandsdesk.records import is_place, read_record_alone
from manyhandsdesk.refusals import DoesNotGo, NoneSuch, NothingThere, TooMuch, WrongArgument, WrongBytes

MOST_BOOK_OCTETS = 1048576

# Of each call, by its number: how many whole numbers it has, and how many rows stand behind them.
SHAPES = {1: (0, 1), 2: (1, 0), 3: (0, 1), 4: (0, 1), 5: (0, 1), 6: (0, 1), 7: (2, 0), 8: (2, 1), 9: (2, 1),
          10: (2, 0), 11: (3, 1), 12: (2, 1), 13: (0, 0), 14: (1, 0), 15: (0, 0), 16: (0, 0)}


class Desk:
    """The book that is open and the collection, None where there is none; each call gives what it tells."""

    def __init__(self):
        self.book = None
        self.collection = None

    def open_book(self, octets):
        if len(octets) > MOST_BOOK_OCTETS:
            raise TooMuch()
        self.book = read_book(octets)
        return []

    def new(self, characters):
        if characters < 1 or characters > MOST_CHARACTERS:
            raise WrongArgument()
        self.collection = Collection(characters)
        return []

    def take(self, octets):
        self.collection = read_collection(octets)
        return []

    def put(self, octets):
        mine = self.own_collection()
        mine.put_in([read_record_alone(octets, mine.characters)])
        return []

    def join(self, octets):
        mine = self.own_collection()
        mine.put_in(self.read_alike(octets).in_order())
        return []

    def lacking(self, octets):
        mine = self.own_collection()
        other = self.read_alike(octets)
        lacked = [record for record in mine.in_order() if other.lacks(record)]
        return with_length(collection_octets(mine.characters, lacked))

    def record(self, hand, number):
        return with_length(self.own_record(hand, number).octets)

    def list_of(self, first, last, place):
        return with_length(names_of(self.counted(first, last, place)))

    def part(self, first, last, place):
        counted = self.counted(first, last, place)
        return with_length(collection_octets(self.collection.characters, counted))

    def kinds(self, hand, number):
        book = self.fitting_book()
        told = []
        for errors, kind in kinds_by_errors(book, self.own_record(hand, number)):
            told.extend([kind, errors])
        return with_length(told)

    def count(self, kind, first, last, place):
        bounds = self.counted_bounds(first, last, place)
        if kind >= len(bounds):
            raise NoneSuch()
        return bounds[kind]

    def table(self, first, last, place):
        told = []
        for kind, bounds in enumerate(self.counted_bounds(first, last, place)):
            if bounds[1] > 0:
                told.extend([kind] + bounds)
        return with_length(told)

    def odd(self):
        book = self.fitting_book()
        return with_length(names_of([one for one in self.collection.not_withdrawn() if kinds_of(book, one) == []]))

    def where(self, kind):
        book = self.fitting_book()
        if kind >= len(book.forms_of):
            raise NoneSuch()
        places = places_of_kind(book, self.collection.not_withdrawn(), kind)
        told = [len(places)]
        for place, certain in places:
            told.extend(with_length(place) + [certain])
        return told

    def bytes_of(self):
        mine = self.own_collection()
        return with_length(collection_octets(mine.characters, mine.in_order()))

    def tally(self):
        mine = self.own_collection()
        return [mine.characters, len(mine.records)]

    def own_collection(self):
        if self.collection is None:
            raise NothingThere()
        return self.collection

    def own_book(self):
        if self.book is None:
            raise NothingThere()
        return self.book

    def fitting_book(self):
        """The book that is open, which the collection must go with."""
        book = self.own_book()
        if not self.own_collection().goes_with(book):
            raise DoesNotGo()
        return book

    def own_record(self, hand, number):
        found = self.own_collection().records.get((hand, number))
        if found is None:
            raise NoneSuch()
        return found

    def counted(self, first, last, place):
        """The records that count for the days from first to last and the place, in order."""
        mine = self.own_collection()
        if first > last or not is_place(place):
            raise WrongArgument()
        return [record for record in mine.in_order() if record.counts(first, last, place)]

    def counted_bounds(self, first, last, place):
        """Of each kind, how many individuals the records that count have at least, at most."""
        # That there is no book is refused ahead of wrong days or places; that it doesn't fit, behind them.
        self.own_book()
        counted = self.counted(first, last, place)
        return bounds_by_kind(self.fitting_book(), counted)

    def read_alike(self, octets):
        """The collection of these bytes, which must have as many characters as the desk's own."""
        other = read_collection(octets)
        if other.characters != self.collection.characters:
            raise NoneSuch()
        return other


def with_length(row):
    return [len(row)] + row


def names_of(records):
    """Hand and number of each, one behind another."""
    told = []
    for record in records:
        told.extend([record.hand, record.number])
    return told


def answers(calls):
    desk = Desk()
    answered = []
    at = 0
    while at < len(calls):
        end = call_end(calls, at)
        answered.extend(with_length(answer(desk, calls[at:end])))
        at = end
    return answered


def call_end(calls, at):
    """Where the call ends that begins there."""
    shape = SHAPES[calls[at]]
    end = at + 1 + shape[0]
    for k in range(shape[1]):
        end = end + 1 + calls[end]
    return end


def answer(desk, call):
    try:
        told = told_by(desk, call)
    except NothingThere:
        return [-9]
    except WrongArgument:
        return [-1]
    except DoesNotGo:
        return [-3]
    except WrongBytes as e:
        return [-5, e.rule, e.place]
    except NoneSuch:
        return [-2]
    except TooMuch:
        return [-6]
    return [0] + told


def told_by(desk, call):
    """Makes the call; its row, if it has one, stands behind its whole numbers and the row's length."""
    row = call[2 + SHAPES[call[0]][0]:]
    if call[0] == 1:
        return desk.open_book(row)
    if call[0] == 2:
        return desk.new(call[1])
    if call[0] == 3:
        return desk.take(row)
    if call[0] == 4:
        return desk.put(row)
    if call[0] == 5:
        return desk.join(row)
    if call[0] == 6:
        return desk.lacking(row)
    if call[0] == 7:
        return desk.record(call[1], call[2])
    if call[0] == 8:
        return desk.list_of(call[1], call[2], row)
    return told_by_later(desk, call, row)


def told_by_later(desk, call, row):
    """Makes a call from 9 on."""
    if call[0] == 9:
        return desk.part(call[1], call[2], row)
    if call[0] == 10:
        return desk.kinds(call[1], call[2])
    if call[0] == 11:
        return desk.count(call[1], call[2], call[3], row)
    if call[0] == 12:
        return desk.table(call[1], call[2], row)
    if call[0] == 13:
        return desk.odd()
    if call[0] == 14:
        return desk.where(call[1])
    if call[0] == 15:
        return desk.bytes_of()
    return desk.tally()
