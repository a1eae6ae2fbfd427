"""The book: its calls, and the answers to a list of calls."""

from piecebook.calls import LINES, UnknownCall, answer_to, end_given, first_given
from piecebook.limits import FULL, MOST_ASKED, MOST_DEPTH, MOST_MARKS, MOST_PIECES, MOST_PLACE, MOST_RATE, MOST_SIZE
from piecebook.limits import MOST_TEXT, MOST_TICK, MOST_WHO, NOT_FREE, NOT_THERE, OUT_OF_RANGE, SUM_END, TOO_GREAT
from piecebook.limits import WHOLE, within
from piecebook.picks import Picks
from piecebook.pieces import NOWHERE, Piece, Pieces
from piecebook.rows import Rows
from piecebook.shares import least_reaching
from piecebook.ways import ALL_LIVE, OWN_MADE, Ways

# what share goes by
PIECES_BY_SIZE = 0
BYTES_BY_SIZE = 1
PIECES_BY_AGE = 2


def joined(rows):
    """The numbers of all rows, one row behind another."""
    numbers = []
    for row in rows:
        numbers.extend(row)
    return numbers


def counted(rows):
    """How many rows there are, then their numbers."""
    return [len(rows)] + joined(rows)


class Book:
    """One book. Each method is a call; it answers a list of numbers, a refusal alone in it."""

    def __init__(self):
        self.begin()

    def begin(self):
        self.time = 0
        self.ways = Ways()
        self.pieces = Pieces()
        self.rows = Rows()
        self.picks = Picks()
        self.marks = []
        self.live_bytes = 0
        self.peak_bytes = 0
        self.peak_time = 0
        self.made_pieces = 0
        self.made_bytes = 0
        self.went_pieces = 0
        return [0]

    def enter(self, who):
        if not within(who, MOST_WHO):
            return [OUT_OF_RANGE]
        return [self.ways.enter(who)]

    def leave(self):
        return [self.ways.leave()]

    def unwind(self, depth):
        if not within(depth, MOST_DEPTH):
            return [OUT_OF_RANGE]
        return [self.ways.unwind(depth)]

    def tick(self, n):
        if not within(n, MOST_TICK):
            return [OUT_OF_RANGE]
        if self.time + n >= SUM_END:
            return [TOO_GREAT]
        self.time += n
        return [0]

    def made(self, place, size):
        if not within(place, MOST_PLACE) or not within(size, MOST_SIZE):
            return [OUT_OF_RANGE]
        if not self.pieces.is_free(place, size, NOWHERE):
            return [NOT_FREE]
        if self.pieces.how_many() == MOST_PIECES:
            return [FULL]
        if self.made_bytes + size >= SUM_END:
            return [TOO_GREAT]
        piece = Piece(self.made_pieces, place, size, self.ways.here, self.time)
        self.pieces.put(piece)
        self.made_pieces += 1
        self.made_bytes += size
        self.ways.count_made(piece.owner, size)
        self.rows.note_made(size)
        self.picks.note_made(piece.owner, size)
        self.count_live(piece.owner, 1, size)
        return [piece.number]

    def went(self, place):
        if not within(place, MOST_PLACE):
            return [OUT_OF_RANGE]
        if not self.pieces.has(place):
            return [NOT_THERE]
        piece = self.pieces.take(place)
        age = self.time - piece.born
        self.went_pieces += 1
        self.rows.note_went(piece.size, age)
        self.count_live(piece.owner, -1, -piece.size)
        return [age]

    def moved(self, place, new_place, new_size):
        if not within(place, MOST_PLACE) or not within(new_place, MOST_PLACE) or not within(new_size, MOST_SIZE):
            return [OUT_OF_RANGE]
        if not self.pieces.has(place):
            return [NOT_THERE]
        if not self.pieces.is_free(new_place, new_size, place):
            return [NOT_FREE]
        piece = self.pieces.take(place)
        more_bytes = new_size - piece.size
        self.rows.note_moved(piece.size, new_size)
        piece.place = new_place
        piece.size = new_size
        self.pieces.put(piece)
        self.count_live(piece.owner, 0, more_bytes)
        return [piece.number]

    def count_live(self, k, more_pieces, more_bytes):
        """Note how many more pieces and bytes of node k live; below 0: fewer."""
        self.ways.count_live(k, more_pieces, more_bytes)
        self.live_bytes += more_bytes
        # only a greater sum counts: as great a one again was not the first
        if self.live_bytes > self.peak_bytes:
            self.peak_bytes = self.live_bytes
            self.peak_time = self.time

    def now(self):
        live = [self.pieces.how_many(), self.live_bytes, self.peak_bytes, self.peak_time]
        return [0, self.time] + live + [self.made_pieces, self.made_bytes, self.went_pieces]

    def node(self, k):
        if not self.ways.has(k):
            return [NOT_THERE]
        node = self.ways.nodes[k]
        own = [node.made_pieces, node.made_bytes, node.live_pieces, node.live_bytes, node.peak_bytes]
        return [node.above, node.who] + own + [node.all_live_pieces, node.all_live_bytes, node.all_made_bytes]

    def find(self, way):
        if not within(len(way), MOST_DEPTH) or not all([within(who, MOST_WHO) for who in way]):
            return [OUT_OF_RANGE]
        return [self.ways.find(way)]

    def path(self, k):
        if not self.ways.has(k):
            return [NOT_THERE]
        whos = self.ways.whos(k)
        return [len(whos)] + whos

    def sizes(self):
        return [0] + joined(self.rows.by_size())

    def ages(self):
        return [0] + joined(self.rows.by_age())

    def oldest(self, k):
        if not within(k, MOST_ASKED):
            return [OUT_OF_RANGE]
        found = self.pieces.eldest(k)
        return counted([(piece.place, piece.size, piece.owner, self.time - piece.born) for piece in found])

    def top(self, by, k):
        if not within(by, ALL_LIVE) or not within(k, MOST_ASKED):
            return [OUT_OF_RANGE]
        return counted(self.ways.most(by, k))

    def mark(self):
        if len(self.marks) == MOST_MARKS:
            return [FULL]
        self.marks.append(self.ways.live_sums())
        return [len(self.marks) - 1]

    def since(self, m):
        if not within(m, len(self.marks) - 1):
            return [NOT_THERE]
        return counted(self.ways.changes(self.marks[m]))

    def holds(self, at):
        if not within(at, MOST_PLACE):
            return [OUT_OF_RANGE]
        piece = self.pieces.holder(at)
        if piece is None:
            return [NOT_THERE]
        return [piece.number, piece.place, piece.size, piece.owner]

    def weighed(self, what):
        """For each piece that lives its size or age, and what it weighs in a share."""
        living = self.pieces.living()
        if what == PIECES_BY_SIZE:
            return [(piece.size, 1) for piece in living]
        if what == BYTES_BY_SIZE:
            return [(piece.size, piece.size) for piece in living]
        return [(self.time - piece.born, 1) for piece in living]

    def share(self, what, p):
        if not within(what, PIECES_BY_AGE) or not 1 <= p <= WHOLE:
            return [OUT_OF_RANGE]
        least = least_reaching(self.weighed(what), p)
        return [least] if least == NOT_THERE else [0, least]

    def pick(self, rate):
        if not within(rate, MOST_RATE):
            return [OUT_OF_RANGE]
        self.picks.start(rate)
        return [self.picks.total]

    def picked(self):
        return counted(self.picks.of_nodes())

    def lines(self, what):
        if not within(what, OWN_MADE):
            return [OUT_OF_RANGE]
        text = self.ways.text(what)
        if len(text) > MOST_TEXT:
            return [FULL]
        return [len(text)] + [ord(sign) for sign in text]


def answers(calls):
    """The answers to a list of calls on a new book, each with how many numbers it has before it."""
    book = Book()
    answered = []
    at = 0
    while at < len(calls):
        call = calls[at]
        # lines is the last of the calls
        if not within(call, LINES):
            raise UnknownCall(f"no call has the number {call}")
        end = end_given(calls, at)
        answer = answer_to(book, call, calls[first_given(calls, at):end])
        answered.append(len(answer))
        answered.extend(answer)
        at = end
    return answered
