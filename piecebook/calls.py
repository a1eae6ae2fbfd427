"""The calls by their numbers: how they are read, and whom they are handed to."""

BEGIN = 0
ENTER = 1
LEAVE = 2
UNWIND = 3
TICK = 4
MADE = 5
WENT = 6
MOVED = 7
NOW = 8
NODE = 9
FIND = 10
PATH = 11
SIZES = 12
AGES = 13
OLDEST = 14
TOP = 15
MARK = 16
SINCE = 17
HOLDS = 18
SHARE = 19
PICK = 20
PICKED = 21
LINES = 22

# how many whole numbers stand behind each call's own; find has a row instead
NUMBERS_BEHIND = (0, 1, 0, 1, 1, 2, 1, 3, 0, 1, 0, 1, 0, 0, 1, 2, 0, 1, 1, 2, 1, 0, 1)


class UnknownCall(ValueError):
    """A list of calls holds a number that stands for no call."""


def answer_to_change(book, call, given):
    """The answer to one of the calls that tell the book of something."""
    if call == BEGIN:
        return book.begin()
    if call == ENTER:
        return book.enter(given[0])
    if call == LEAVE:
        return book.leave()
    if call == UNWIND:
        return book.unwind(given[0])
    if call == TICK:
        return book.tick(given[0])
    if call == MADE:
        return book.made(given[0], given[1])
    if call == WENT:
        return book.went(given[0])
    return book.moved(given[0], given[1], given[2])


def answer_to_question(book, call, given):
    """The answer to one of the calls that ask for a node or for the sums of now."""
    if call == NOW:
        return book.now()
    if call == NODE:
        return book.node(given[0])
    if call == FIND:
        return book.find(given)
    return book.path(given[0])


def answer_to_ranking(book, call, given):
    """The answer to one of the calls that ask for classes, or for the first of an order."""
    if call == SIZES:
        return book.sizes()
    if call == AGES:
        return book.ages()
    if call == OLDEST:
        return book.oldest(given[0])
    return book.top(given[0], given[1])


def answer_to_view(book, call, given):
    """The answer to one of the calls of marks, bytes, shares, picks and texts."""
    if call == MARK:
        return book.mark()
    if call == SINCE:
        return book.since(given[0])
    if call == HOLDS:
        return book.holds(given[0])
    if call == SHARE:
        return book.share(given[0], given[1])
    if call == PICK:
        return book.pick(given[0])
    if call == PICKED:
        return book.picked()
    return book.lines(given[0])


def answer_to(book, call, given):
    """The answer to one call."""
    if call <= MOVED:
        return answer_to_change(book, call, given)
    if call <= PATH:
        return answer_to_question(book, call, given)
    if call <= TOP:
        return answer_to_ranking(book, call, given)
    return answer_to_view(book, call, given)


def first_given(calls, at):
    """Where what is handed to the call at this index begins."""
    return at + 2 if calls[at] == FIND else at + 1


def end_given(calls, at):
    """Where what is handed to the call at this index ends."""
    if calls[at] == FIND:
        return at + 2 + calls[at + 1]
    return at + 1 + NUMBERS_BEHIND[calls[at]]
