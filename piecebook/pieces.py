"""The pieces that live, by their places."""

# where no piece is: to leave none out
NOWHERE = -1


class Piece:
    """A piece: its number, where it lies, its node and the time when it was made."""

    def __init__(self, number, place, size, owner, born):
        self.number = number
        self.place = place
        self.size = size
        self.owner = owner
        self.born = born


def end_of(place, size):
    """The first place behind a piece."""
    # a piece of no size has its place for itself, so it takes room like one of size 1
    return place + max(size, 1)


class Pieces:
    """The pieces that live, and their places in rising order."""

    def __init__(self):
        self.by_place = {}
        self.places = []

    def how_many(self):
        """How many pieces live."""
        return len(self.places)

    def has(self, place):
        """Whether a piece that lives has this place."""
        return place in self.by_place

    def living(self):
        """All pieces that live."""
        return list(self.by_place.values())

    def eldest(self, k):
        """The k pieces that have lived longest, all if there are fewer."""
        # time never goes back, so an older piece has a lower number
        return sorted(self.living(), key=lambda piece: piece.number)[:k]

    def rank(self, place):
        """How many pieces have a lower place."""
        low = 0
        high = len(self.places)
        while low < high:
            middle = (low + high) // 2
            if self.places[middle] < place:
                low = middle + 1
            else:
                high = middle
        return low

    def holder(self, at):
        """The piece that lives and has the byte at this place, or None."""
        # pieces never overlap, so it can only be the nearest that doesn't begin behind the byte
        behind = self.rank(at + 1)
        if behind == 0:
            return None
        piece = self.by_place[self.places[behind - 1]]
        return piece if at < piece.place + piece.size else None

    def is_free(self, place, size, left_out):
        """Whether a piece may lie here, as if the one at the place left_out were not there."""
        # pieces never overlap, so the nearest on either side is the only one that can be in the way
        after = self.rank(place)
        # those below the one left out end at its place at the latest, so none need be looked for there
        if after > 0 and self.places[after - 1] != left_out:
            lower = self.by_place[self.places[after - 1]]
            if end_of(lower.place, lower.size) > place:
                return False
        if after < len(self.places) and self.places[after] == left_out:
            after += 1
        return after == len(self.places) or end_of(place, size) <= self.places[after]

    def put(self, piece):
        """Take a piece in; its room must be free."""
        self.places.insert(self.rank(piece.place), piece.place)
        self.by_place[piece.place] = piece

    def take(self, place):
        """Take out the piece that has this place, and give it back."""
        self.places.pop(self.rank(place))
        return self.by_place.pop(place)
