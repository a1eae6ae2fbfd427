"""What the tests share: calls by name, answers taken apart, and a slow model of the book."""

from piecebook.book import answers

NUMBERS = {
    "begin": 0, "enter": 1, "leave": 2, "unwind": 3, "tick": 4, "made": 5, "went": 6,
    "moved": 7, "now": 8, "node": 9, "find": 10, "path": 11, "sizes": 12, "ages": 13, "oldest": 14,
    "top": 15, "mark": 16, "since": 17, "holds": 18, "share": 19, "pick": 20, "picked": 21, "lines": 22,
}

PLACE = 2 ** 40 - 1
SIZE = 2 ** 32 - 1
HUGE = 2 ** 64 - 1


def flat(calls):
    """The list of whole numbers for calls like ("made", 0, 8) or ("find", [1, 2])."""
    numbers = []
    for name, *given in calls:
        numbers.append(NUMBERS[name])
        for value in given:
            if isinstance(value, list):
                numbers.append(len(value))
                numbers.extend(value)
            else:
                numbers.append(value)
    return numbers


def apart(answered):
    """The answers one by one, each a list."""
    found = []
    at = 0
    while at < len(answered):
        end = at + 1 + answered[at]
        if end > len(answered) or answered[at] < 1:
            raise AssertionError(f"no such form: {answered[at:at + 9]}")
        found.append(answered[at + 1:end])
        at = end
    return found


def ask(*calls):
    """All answers to the calls on a new book."""
    found = apart(answers(flat(calls)))
    if len(found) != len(calls):
        raise AssertionError(f"{len(found)} answers to {len(calls)} calls")
    return found


def last(*calls):
    """The answer to the last of the calls on a new book."""
    return ask(*calls)[-1]


def state(thing):
    """All that an object keeps, as plain values that can be compared."""
    if isinstance(thing, (list, tuple)):
        return [state(value) for value in thing]
    if isinstance(thing, dict):
        return [(key, state(value)) for key, value in sorted(thing.items())]
    if hasattr(thing, "__dict__"):
        return state(vars(thing))
    return thing


def rows_of(numbers, width):
    """The rows of so many numbers each that stand behind an answer's first number."""
    if (len(numbers) - 1) % width:
        raise AssertionError(f"no rows of {width}: {len(numbers)}")
    return [numbers[at:at + width] for at in range(1, len(numbers), width)]


def power_of(number):
    """e so that 2^e is no more than the number and 2^(e+1) more."""
    e = 0
    while 2 ** (e + 1) <= number:
        e += 1
    return e


def class_of_size(size):
    """The class of a size, word for word as the document has it."""
    if size < 8:
        return size
    e = power_of(size)
    return 4 * e - 4 + (size - 2 ** e) // 2 ** (e - 2)


def class_of_age(age):
    """The class of an age, word for word as the document has it."""
    return power_of(age) + 1 if age else 0


def overlap(place, size, other_place, other_size):
    """Whether two pieces can't both live, word for word as the document has it."""
    if place == other_place:
        return True
    if other_place <= place < other_place + other_size:
        return True
    if place <= other_place < place + size:
        return True
    return max(place, other_place) < min(place + size, other_place + other_size)


class Model:
    """The book once more, with every sum counted anew from the pieces whenever it's asked for."""

    def __init__(self):
        self.begin()

    def begin(self):
        self.time = 0
        self.way = ()
        self.gone = [()]
        self.all = []
        self.peak = (0, 0)
        self.peaks = {}
        self.marks = []
        self.rate = 0
        self.run = 0
        self.picks = []
        return [0]

    def live(self):
        return [piece for piece in self.all if piece["lives"]]

    def at(self, place):
        found = [piece for piece in self.live() if piece["place"] == place]
        return found[0] if found else None

    def note(self):
        total = sum(piece["size"] for piece in self.live())
        if total > self.peak[0]:
            self.peak = (total, self.time)
        for k in range(len(self.gone)):
            own = sum(piece["size"] for piece in self.live() if piece["node"] == k)
            self.peaks[k] = max(self.peaks.get(k, 0), own)

    def enter(self, who):
        if who > 65535:
            return [-8]
        longer = self.way + (who,)
        if len(longer) > 64 or (longer not in self.gone and len(self.gone) == 4096):
            return [-6]
        if longer not in self.gone:
            self.gone.append(longer)
        self.way = longer
        return [self.gone.index(longer)]

    def leave(self):
        if not self.way:
            return [-5]
        self.way = self.way[:-1]
        return [self.gone.index(self.way)]

    def unwind(self, depth):
        if depth > 64:
            return [-8]
        if depth > len(self.way):
            return [-5]
        self.way = self.way[:depth]
        return [self.gone.index(self.way)]

    def tick(self, n):
        if n > SIZE:
            return [-8]
        if self.time + n >= 2 ** 63:
            return [-7]
        self.time += n
        return [0]

    def blocked(self, place, size, left_out):
        return any(overlap(place, size, other["place"], other["size"])
                   for other in self.live() if other is not left_out)

    def made(self, place, size):
        if place > PLACE or size > SIZE:
            return [-8]
        if self.blocked(place, size, None):
            return [-3]
        if len(self.live()) == 65536:
            return [-6]
        self.all.append({"place": place, "size": size, "first": size, "born": self.time,
                         "node": self.gone.index(self.way), "lives": True})
        self.note()
        self.note_picks(size)
        return [len(self.all) - 1]

    def went(self, place):
        if place > PLACE:
            return [-8]
        piece = self.at(place)
        if piece is None:
            return [-4]
        piece["lives"] = False
        piece["age"] = self.time - piece["born"]
        return [piece["age"]]

    def moved(self, place, new_place, new_size):
        if place > PLACE or new_place > PLACE or new_size > SIZE:
            return [-8]
        piece = self.at(place)
        if piece is None:
            return [-4]
        if self.blocked(new_place, new_size, piece):
            return [-3]
        piece["place"] = new_place
        piece["size"] = new_size
        self.note()
        return [self.all.index(piece)]

    def now(self):
        live = self.live()
        return [0, self.time, len(live), sum(piece["size"] for piece in live), self.peak[0], self.peak[1],
                len(self.all), sum(piece["first"] for piece in self.all), len(self.all) - len(live)]

    def node(self, k):
        if k >= len(self.gone):
            return [-4]
        way = self.gone[k]
        own = [piece for piece in self.all if piece["node"] == k]
        below = [piece for piece in self.all if self.gone[piece["node"]][:len(way)] == way]
        own_live = [piece for piece in own if piece["lives"]]
        below_live = [piece for piece in below if piece["lives"]]
        return [self.gone.index(way[:-1]), way[-1] if way else 0,
                len(own), sum(piece["first"] for piece in own),
                len(own_live), sum(piece["size"] for piece in own_live), self.peaks.get(k, 0),
                len(below_live), sum(piece["size"] for piece in below_live),
                sum(piece["first"] for piece in below)]

    def find(self, way):
        if any(who > 65535 for who in way):
            return [-8]
        return [self.gone.index(tuple(way))] if tuple(way) in self.gone else [-4]

    def path(self, k):
        if k >= len(self.gone):
            return [-4]
        return [len(self.gone[k]), *self.gone[k]]

    def sizes(self):
        made = [class_of_size(piece["first"]) for piece in self.all]
        live = [class_of_size(piece["size"]) for piece in self.live()]
        return [0] + [count for row in range(124) for count in (made.count(row), live.count(row))]

    def ages(self):
        found = [0] * 129
        for piece in self.all:
            if not piece["lives"]:
                found[1 + 2 * class_of_age(piece["age"])] += 1
                found[2 + 2 * class_of_age(piece["age"])] += piece["size"]
        return found

    def oldest(self, k):
        if k > 1024:
            return [-8]
        order = sorted((piece["born"], self.all.index(piece)) for piece in self.live())[:k]
        found = [len(order)]
        for born, number in order:
            piece = self.all[number]
            found += [piece["place"], piece["size"], piece["node"], self.time - born]
        return found

    def top(self, by, k):
        if by > 3 or k > 1024:
            return [-8]
        much = [(-self.node(at)[[5, 3, 6, 8][by]], at) for at in range(len(self.gone))]
        order = sorted(pair for pair in much if pair[0])[:k]
        return [len(order)] + [number for less, at in order for number in (at, -less)]

    def mark(self):
        if len(self.marks) == 64:
            return [-6]
        self.marks.append([self.node(k)[4:6] for k in range(len(self.gone))])
        return [len(self.marks) - 1]

    def since(self, m):
        if m >= len(self.marks):
            return [-4]
        found = []
        for k in range(len(self.gone)):
            pieces, size = self.node(k)[4:6]
            if k < len(self.marks[m]):
                pieces -= self.marks[m][k][0]
                size -= self.marks[m][k][1]
            if pieces or size:
                found.append([k, pieces, size])
        return [len(found)] + [number for row in found for number in row]

    def holds(self, at):
        if at > PLACE:
            return [-8]
        for piece in self.live():
            if piece["place"] <= at < piece["place"] + piece["size"]:
                return [self.all.index(piece), piece["place"], piece["size"], piece["node"]]
        return [-4]

    def share(self, what, p):
        if what > 2 or not 1 <= p <= 10000:
            return [-8]
        pairs = [(self.time - piece["born"] if what == 2 else piece["size"], piece["size"] if what == 1 else 1)
                 for piece in self.live()]
        whole = sum(weight for value, weight in pairs)
        if whole == 0:
            return [-4]
        return [0, min(least for least, one in pairs
                       if 10000 * sum(weight for value, weight in pairs if value <= least) >= p * whole)]

    def note_picks(self, size):
        if self.rate:
            more = (self.run + size) // self.rate - self.run // self.rate
            self.picks.append((self.gone.index(self.way), more, self.rate))
            self.run += size

    def pick(self, rate):
        if rate > SIZE:
            return [-8]
        self.rate = rate
        self.run = 0
        return [sum(more for k, more, rate in self.picks)]

    def picked(self):
        found = []
        for k in sorted({k for k, more, rate in self.picks if more}):
            own = [(more, rate) for at, more, rate in self.picks if at == k]
            found.append([k, sum(more for more, rate in own), sum(more * rate for more, rate in own)])
        return [len(found)] + [number for row in found for number in row]

    def lines(self, what):
        if what > 1:
            return [-8]
        text = b""
        for k, way in enumerate(self.gone):
            much = self.node(k)[[5, 3][what]]
            if much:
                text += ";".join(map(str, way)).encode() + b" %d\n" % much
        return [-6] if len(text) > 1048576 else [len(text), *text]

    def ask(self, calls):
        """All answers to the calls."""
        return [getattr(self, name)(*given) for name, *given in calls]
