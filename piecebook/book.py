"""The book: its calls, and the answers to a list of calls."""

from piecebook.limits import FULL, MOST_DEPTH, MOST_PIECES, MOST_PLACE, MOST_SIZE, MOST_TICK, MOST_WHO
from piecebook.limits import NOT_FREE, NOT_THERE, OUT_OF_RANGE, SUM_END, TOO_GREAT, within
from piecebook.pieces import NOWHERE, Piece, Pieces
from piecebook.ways import Ways

BEGIN = 0
ENTER = 1
LEAVE = 2
UNWIND = 3
TICK = 4
MADE = 5
WENT = 6
MOVED = 7
NOW = 8
NODE = 9
FIND = 10
PATH = 11

# how many whole numbers stand behind each call's own; find has a row instead
NUMBERS_BEHIND = (0, 1, 0, 1, 1, 2, 1, 3, 0, 1, 0, 1)


class UnknownCall(ValueError):
    """A list of calls holds a number that stands for no call."""


class Book:
    """One book. Each method is a call; it answers a list of numbers, a refusal alone in it."""

    def __init__(self):
        self.begin()

    def begin(self):
        self.time = 0
        self.ways = Ways()
        self.pieces = Pieces()
        self.live_bytes = 0
        self.peak_bytes = 0
        self.peak_time = 0
        self.made_pieces = 0
        self.made_bytes = 0
        self.went_pieces = 0
        return [0]

    def enter(self, who):
        if not within(who, MOST_WHO):
            return [OUT_OF_RANGE]
        return [self.ways.enter(who)]

    def leave(self):
        return [self.ways.leave()]

    def unwind(self, depth):
        if not within(depth, MOST_DEPTH):
            return [OUT_OF_RANGE]
        return [self.ways.unwind(depth)]

    def tick(self, n):
        if not within(n, MOST_TICK):
            return [OUT_OF_RANGE]
        if self.time + n >= SUM_END:
            return [TOO_GREAT]
        self.time += n
        return [0]

    def made(self, place, size):
        if not within(place, MOST_PLACE) or not within(size, MOST_SIZE):
            return [OUT_OF_RANGE]
        if not self.pieces.is_free(place, size, NOWHERE):
            return [NOT_FREE]
        if self.pieces.how_many() == MOST_PIECES:
            return [FULL]
        if self.made_bytes + size >= SUM_END:
            return [TOO_GREAT]
        piece = Piece(self.made_pieces, place, size, self.ways.here, self.time)
        self.pieces.put(piece)
        self.made_pieces += 1
        self.made_bytes += size
        self.ways.count_made(piece.owner, size)
        self.count_live(piece.owner, 1, size)
        return [piece.number]

    def went(self, place):
        if not within(place, MOST_PLACE):
            return [OUT_OF_RANGE]
        if not self.pieces.has(place):
            return [NOT_THERE]
        piece = self.pieces.take(place)
        self.went_pieces += 1
        self.count_live(piece.owner, -1, -piece.size)
        return [self.time - piece.born]

    def moved(self, place, new_place, new_size):
        if not within(place, MOST_PLACE) or not within(new_place, MOST_PLACE) or not within(new_size, MOST_SIZE):
            return [OUT_OF_RANGE]
        if not self.pieces.has(place):
            return [NOT_THERE]
        if not self.pieces.is_free(new_place, new_size, place):
            return [NOT_FREE]
        piece = self.pieces.take(place)
        more_bytes = new_size - piece.size
        piece.place = new_place
        piece.size = new_size
        self.pieces.put(piece)
        self.count_live(piece.owner, 0, more_bytes)
        return [piece.number]

    def count_live(self, k, more_pieces, more_bytes):
        """Note how many more pieces and bytes of node k live; below 0: fewer."""
        self.ways.count_live(k, more_pieces, more_bytes)
        self.live_bytes += more_bytes
        # only a greater sum counts: as great a one again was not the first
        if self.live_bytes > self.peak_bytes:
            self.peak_bytes = self.live_bytes
            self.peak_time = self.time

    def now(self):
        live = [self.pieces.how_many(), self.live_bytes, self.peak_bytes, self.peak_time]
        return [0, self.time] + live + [self.made_pieces, self.made_bytes, self.went_pieces]

    def node(self, k):
        if not self.ways.has(k):
            return [NOT_THERE]
        node = self.ways.nodes[k]
        own = [node.made_pieces, node.made_bytes, node.live_pieces, node.live_bytes, node.peak_bytes]
        return [node.above, node.who] + own + [node.all_live_pieces, node.all_live_bytes, node.all_made_bytes]

    def find(self, way):
        if not within(len(way), MOST_DEPTH) or not all([within(who, MOST_WHO) for who in way]):
            return [OUT_OF_RANGE]
        return [self.ways.find(way)]

    def path(self, k):
        if not self.ways.has(k):
            return [NOT_THERE]
        whos = self.ways.whos(k)
        return [len(whos)] + whos


def answer_to_change(book, call, given):
    """The answer to one of the calls that may change the book."""
    if call == BEGIN:
        return book.begin()
    if call == ENTER:
        return book.enter(given[0])
    if call == LEAVE:
        return book.leave()
    if call == UNWIND:
        return book.unwind(given[0])
    if call == TICK:
        return book.tick(given[0])
    if call == MADE:
        return book.made(given[0], given[1])
    if call == WENT:
        return book.went(given[0])
    return book.moved(given[0], given[1], given[2])


def answer_to_question(book, call, given):
    """The answer to one of the calls that only ask."""
    if call == NOW:
        return book.now()
    if call == NODE:
        return book.node(given[0])
    if call == FIND:
        return book.find(given)
    return book.path(given[0])


def answer_to(book, call, given):
    """The answer to one call."""
    if call <= MOVED:
        return answer_to_change(book, call, given)
    return answer_to_question(book, call, given)


def first_given(calls, at):
    """Where what is handed to the call at this index begins."""
    return at + 2 if calls[at] == FIND else at + 1


def end_given(calls, at):
    """Where what is handed to the call at this index ends."""
    if calls[at] == FIND:
        return at + 2 + calls[at + 1]
    return at + 1 + NUMBERS_BEHIND[calls[at]]


def answers(calls):
    """The answers to a list of calls on a new book, each with how many numbers it has before it."""
    book = Book()
    answered = []
    at = 0
    while at < len(calls):
        call = calls[at]
        # path is the last of the calls
        if not within(call, PATH):
            raise UnknownCall(f"no call has the number {call}")
        end = end_given(calls, at)
        answer = answer_to(book, call, calls[first_given(calls, at):end])
        answered.append(len(answer))
        answered.extend(answer)
        at = end
    return answered
