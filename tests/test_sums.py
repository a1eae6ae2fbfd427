"""Points 1, 3, 7 and 8: begin, tick, now and node."""

import unittest

from piecebook.book import Book
from tests.helper import HUGE, PLACE, SIZE, ask, last, state


class Begin(unittest.TestCase):
    def test_all_is_forgotten(self):
        filled = [("enter", 3), ("enter", 4), ("made", 0, 8), ("tick", 9), ("made", 8, 8), ("went", 0)]
        probes = [("now",), ("node", 0), ("node", 1), ("path", 0), ("find", [3]), ("went", 8), ("leave",),
                  ("unwind", 1), ("enter", 7), ("made", 8, 8), ("tick", 1), ("went", 8), ("now",), ("node", 1)]
        found = ask(*filled, ("begin",), *probes)
        self.assertEqual(found[6], [0])
        self.assertEqual(found[7:], ask(*probes))
        self.assertEqual(found[7], [0, 0, 0, 0, 0, 0, 0, 0, 0])

    def test_all_that_a_book_keeps_is_as_at_first(self):
        book = Book()
        book.pick(3)
        book.enter(3)
        book.made(0, 8)
        book.made(8, 8)
        book.tick(5)
        book.went(0)
        book.mark()
        self.assertEqual(book.begin(), [0])
        self.assertEqual(state(book), state(Book()))


class Tick(unittest.TestCase):
    def test_time_goes_on(self):
        self.assertEqual(ask(("tick", 5), ("tick", 0), ("tick", 7), ("now",)),
                         [[0], [0], [0], [0, 12, 0, 0, 0, 0, 0, 0, 0]])

    def test_the_greatest_step_and_one_beyond(self):
        self.assertEqual(ask(("tick", SIZE), ("tick", SIZE + 1), ("tick", HUGE), ("now",)),
                         [[0], [-8], [-8], [0, SIZE, 0, 0, 0, 0, 0, 0, 0]])

    def test_the_end_of_time(self):
        book = Book()
        book.made(0, 8)
        book.time = 2 ** 63 - 5
        before = state(book)
        self.assertEqual(book.tick(5), [-7])
        self.assertEqual(book.tick(SIZE), [-7])
        self.assertEqual(book.tick(SIZE + 1), [-8])
        self.assertEqual(state(book), before)
        self.assertEqual(book.tick(4), [0])
        self.assertEqual(book.now()[1], 2 ** 63 - 1)
        self.assertEqual(book.tick(1), [-7])
        self.assertEqual(book.tick(0), [0])
        self.assertEqual(book.went(0), [2 ** 63 - 1])


class Now(unittest.TestCase):
    def test_the_order_of_its_numbers(self):
        found = last(("tick", 1), ("made", 0, 10), ("tick", 2), ("made", 10, 20), ("tick", 4), ("went", 0),
                     ("tick", 8), ("made", 100, 3), ("moved", 100, 100, 5), ("tick", 16), ("now",))
        self.assertEqual(found, [0, 31, 2, 25, 30, 3, 3, 33, 1])

    def test_the_time_of_the_greatest_sum_is_when_it_was_first_so(self):
        calls = [("tick", 1), ("made", 0, 10), ("tick", 1), ("went", 0), ("tick", 1), ("made", 0, 10)]
        self.assertEqual(last(*calls, ("now",))[4:6], [10, 1])
        self.assertEqual(last(*calls, ("tick", 1), ("made", 10, 0), ("now",))[4:6], [10, 1])
        self.assertEqual(last(*calls, ("tick", 1), ("made", 10, 1), ("now",))[4:6], [11, 4])

    def test_no_bytes_are_no_greater_sum(self):
        self.assertEqual(last(("tick", 5), ("made", 0, 0), ("now",)), [0, 5, 1, 0, 0, 0, 1, 0, 0])

    def test_moved_may_bring_the_greatest_sum(self):
        self.assertEqual(last(("made", 0, 10), ("tick", 3), ("moved", 0, 5, 12), ("tick", 1), ("now",)),
                         [0, 4, 1, 12, 12, 3, 1, 10, 0])

    def test_moved_to_fewer_bytes_leaves_the_greatest_sum(self):
        self.assertEqual(last(("made", 0, 10), ("tick", 3), ("moved", 0, 5, 2), ("moved", 5, 5, 10), ("now",)),
                         [0, 3, 1, 10, 10, 0, 1, 10, 0])

    def test_moved_never_holds_old_and_new_bytes_at_once(self):
        self.assertEqual(last(("made", 0, 10), ("moved", 0, 100, 10), ("now",)), [0, 0, 1, 10, 10, 0, 1, 10, 0])

    def test_a_piece_that_went_takes_its_bytes_of_now_along(self):
        self.assertEqual(last(("made", 0, 10), ("made", 20, 1), ("moved", 0, 0, 4), ("went", 0), ("now",)),
                         [0, 0, 1, 1, 11, 0, 2, 11, 1])

    def test_great_sums_are_exact(self):
        calls = [("made", k * 2 ** 32, SIZE) for k in range(256)]
        self.assertEqual(last(*calls, ("tick", 1), ("went", 0), ("now",)),
                         [0, 1, 255, 255 * SIZE, 256 * SIZE, 0, 256, 256 * SIZE, 1])


class Node(unittest.TestCase):
    calls = [
        ("made", 0, 1),
        ("enter", 5), ("made", 10, 2), ("made", 20, 4),
        ("enter", 6), ("made", 30, 8),
        ("unwind", 0), ("enter", 7), ("made", 40, 16),
        ("enter", 5), ("made", 60, 32), ("went", 20), ("went", 60)]

    def test_own_and_with_all_below(self):
        self.assertEqual(ask(*self.calls, *[("node", k) for k in range(5)])[13:], [
            [0, 0, 1, 1, 1, 1, 1, 4, 27, 63],
            [0, 5, 2, 6, 1, 2, 6, 2, 10, 14],
            [1, 6, 1, 8, 1, 8, 8, 1, 8, 8],
            [0, 7, 1, 16, 1, 16, 16, 1, 16, 48],
            [3, 5, 1, 32, 0, 0, 32, 0, 0, 32]])

    def test_no_such_node(self):
        self.assertEqual(ask(*self.calls, ("node", 5), ("node", 4096), ("node", HUGE))[13:], [[-4]] * 3)

    def test_a_new_node_has_nothing(self):
        self.assertEqual(ask(("enter", 65535), ("enter", 2), ("node", 0), ("node", 1), ("node", 2))[2:], [
            [0, 0, 0, 0, 0, 0, 0, 0, 0, 0], [0, 65535, 0, 0, 0, 0, 0, 0, 0, 0], [1, 2, 0, 0, 0, 0, 0, 0, 0, 0]])

    def test_pieces_of_no_size_count_as_pieces(self):
        self.assertEqual(last(("enter", 1), ("made", 0, 0), ("made", 1, 0), ("went", 0), ("node", 1)),
                         [0, 1, 2, 0, 1, 0, 0, 1, 0, 0])

    def test_the_greatest_own_bytes_are_of_one_node_alone(self):
        found = ask(("enter", 1), ("made", 0, 10), ("went", 0), ("leave",), ("enter", 2), ("made", 0, 7),
                    ("node", 0), ("node", 1), ("node", 2))
        self.assertEqual([answer[6] for answer in found[6:]], [0, 10, 7])

    def test_moved_is_followed_by_the_live_sums_all_the_way_up(self):
        calls = [("enter", 1), ("enter", 2), ("made", 0, 10), ("unwind", 0), ("moved", 0, 50, 25)]
        nodes = [("node", 0), ("node", 1), ("node", 2)]
        self.assertEqual(ask(*calls, *nodes)[5:], [
            [0, 0, 0, 0, 0, 0, 0, 1, 25, 10], [0, 1, 0, 0, 0, 0, 0, 1, 25, 10], [1, 2, 1, 10, 1, 25, 25, 1, 25, 10]])
        self.assertEqual(ask(*calls, ("moved", 50, 0, 3), *nodes)[6:], [
            [0, 0, 0, 0, 0, 0, 0, 1, 3, 10], [0, 1, 0, 0, 0, 0, 0, 1, 3, 10], [1, 2, 1, 10, 1, 3, 25, 1, 3, 10]])
        self.assertEqual(ask(*calls, ("went", 50), *nodes)[6:], [
            [0, 0, 0, 0, 0, 0, 0, 0, 0, 10], [0, 1, 0, 0, 0, 0, 0, 0, 0, 10], [1, 2, 1, 10, 0, 0, 25, 0, 0, 10]])

    def test_the_deepest_way(self):
        calls = [("enter", 9)] * 64 + [("made", PLACE, 6)]
        self.assertEqual(ask(*calls, ("node", 0), ("node", 63), ("node", 64))[65:], [
            [0, 0, 0, 0, 0, 0, 0, 1, 6, 6], [62, 9, 0, 0, 0, 0, 0, 1, 6, 6], [63, 9, 1, 6, 1, 6, 6, 1, 6, 6]])


if __name__ == "__main__":
    unittest.main()
