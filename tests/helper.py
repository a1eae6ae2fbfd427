"""What the tests share: calls by name, answers taken apart, and a slow model of the book."""

from piecebook.book import answers

NUMBERS = {
    "begin": 0, "enter": 1, "leave": 2, "unwind": 3, "tick": 4, "made": 5, "went": 6,
    "moved": 7, "now": 8, "node": 9, "find": 10, "path": 11,
}

PLACE = 2 ** 40 - 1
SIZE = 2 ** 32 - 1
HUGE = 2 ** 64 - 1


def flat(calls):
    """The list of whole numbers for calls like ("made", 0, 8) or ("find", [1, 2])."""
    numbers = []
    for name, *given in calls:
        numbers.append(NUMBERS[name])
        for value in given:
            if isinstance(value, list):
                numbers.append(len(value))
                numbers.extend(value)
            else:
                numbers.append(value)
    return numbers


def apart(answered):
    """The answers one by one, each a list."""
    found = []
    at = 0
    while at < len(answered):
        end = at + 1 + answered[at]
        if end > len(answered) or answered[at] < 1:
            raise AssertionError(f"no such form: {answered[at:at + 9]}")
        found.append(answered[at + 1:end])
        at = end
    return found


def ask(*calls):
    """All answers to the calls on a new book."""
    found = apart(answers(flat(calls)))
    if len(found) != len(calls):
        raise AssertionError(f"{len(found)} answers to {len(calls)} calls")
    return found


def last(*calls):
    """The answer to the last of the calls on a new book."""
    return ask(*calls)[-1]


def state(thing):
    """All that an object keeps, as plain values that can be compared."""
    if isinstance(thing, (list, tuple)):
        return [state(value) for value in thing]
    if isinstance(thing, dict):
        return [(key, state(value)) for key, value in sorted(thing.items())]
    if hasattr(thing, "__dict__"):
        return state(vars(thing))
    return thing


def overlap(place, size, other_place, other_size):
    """Whether two pieces can't both live, word for word as the document has it."""
    if place == other_place:
        return True
    if other_place <= place < other_place + other_size:
        return True
    if place <= other_place < place + size:
        return True
    return max(place, other_place) < min(place + size, other_place + other_size)


class Model:
    """The book once more, with every sum counted anew from the pieces whenever it's asked for."""

    def __init__(self):
        self.begin()

    def begin(self):
        self.time = 0
        self.way = ()
        self.gone = [()]
        self.all = []
        self.peak = (0, 0)
        self.peaks = {}
        return [0]

    def live(self):
        return [piece for piece in self.all if piece["lives"]]

    def at(self, place):
        found = [piece for piece in self.live() if piece["place"] == place]
        return found[0] if found else None

    def note(self):
        total = sum(piece["size"] for piece in self.live())
        if total > self.peak[0]:
            self.peak = (total, self.time)
        for k in range(len(self.gone)):
            own = sum(piece["size"] for piece in self.live() if piece["node"] == k)
            self.peaks[k] = max(self.peaks.get(k, 0), own)

    def enter(self, who):
        if who > 65535:
            return [-8]
        longer = self.way + (who,)
        if len(longer) > 64 or (longer not in self.gone and len(self.gone) == 4096):
            return [-6]
        if longer not in self.gone:
            self.gone.append(longer)
        self.way = longer
        return [self.gone.index(longer)]

    def leave(self):
        if not self.way:
            return [-5]
        self.way = self.way[:-1]
        return [self.gone.index(self.way)]

    def unwind(self, depth):
        if depth > 64:
            return [-8]
        if depth > len(self.way):
            return [-5]
        self.way = self.way[:depth]
        return [self.gone.index(self.way)]

    def tick(self, n):
        if n > SIZE:
            return [-8]
        if self.time + n >= 2 ** 63:
            return [-7]
        self.time += n
        return [0]

    def blocked(self, place, size, left_out):
        return any(overlap(place, size, other["place"], other["size"])
                   for other in self.live() if other is not left_out)

    def made(self, place, size):
        if place > PLACE or size > SIZE:
            return [-8]
        if self.blocked(place, size, None):
            return [-3]
        if len(self.live()) == 65536:
            return [-6]
        self.all.append({"place": place, "size": size, "first": size, "born": self.time,
                         "node": self.gone.index(self.way), "lives": True})
        self.note()
        return [len(self.all) - 1]

    def went(self, place):
        if place > PLACE:
            return [-8]
        piece = self.at(place)
        if piece is None:
            return [-4]
        piece["lives"] = False
        return [self.time - piece["born"]]

    def moved(self, place, new_place, new_size):
        if place > PLACE or new_place > PLACE or new_size > SIZE:
            return [-8]
        piece = self.at(place)
        if piece is None:
            return [-4]
        if self.blocked(new_place, new_size, piece):
            return [-3]
        piece["place"] = new_place
        piece["size"] = new_size
        self.note()
        return [self.all.index(piece)]

    def now(self):
        live = self.live()
        return [0, self.time, len(live), sum(piece["size"] for piece in live), self.peak[0], self.peak[1],
                len(self.all), sum(piece["first"] for piece in self.all), len(self.all) - len(live)]

    def node(self, k):
        if k >= len(self.gone):
            return [-4]
        way = self.gone[k]
        own = [piece for piece in self.all if piece["node"] == k]
        below = [piece for piece in self.all if self.gone[piece["node"]][:len(way)] == way]
        own_live = [piece for piece in own if piece["lives"]]
        below_live = [piece for piece in below if piece["lives"]]
        return [self.gone.index(way[:-1]), way[-1] if way else 0,
                len(own), sum(piece["first"] for piece in own),
                len(own_live), sum(piece["size"] for piece in own_live), self.peaks.get(k, 0),
                len(below_live), sum(piece["size"] for piece in below_live),
                sum(piece["first"] for piece in below)]

    def find(self, way):
        if any(who > 65535 for who in way):
            return [-8]
        return [self.gone.index(tuple(way))] if tuple(way) in self.gone else [-4]

    def path(self, k):
        if k >= len(self.gone):
            return [-4]
        return [len(self.gone[k]), *self.gone[k]]

    def ask(self, calls):
        """All answers to the calls."""
        return [getattr(self, name)(*given) for name, *given in calls]
