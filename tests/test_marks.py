"""Point 13: mark and since."""

import unittest

from piecebook.book import Book
from tests.helper import HUGE, SIZE, ask, last, state

FILLED = [("enter", 4), ("made", 0, 8), ("made", 8, 8), ("enter", 5), ("made", 16, 3), ("unwind", 0)]


class Mark(unittest.TestCase):
    def test_marks_are_numbered(self):
        self.assertEqual(ask(("mark",), ("made", 0, 1), ("mark",), ("mark",)), [[0], [0], [1], [2]])

    def test_sixty_four_and_one_more(self):
        found = ask(*[("mark",)] * 64, ("made", 0, 5), ("mark",), ("mark",), ("since", 63), ("since", 64))
        self.assertEqual(found[:64], [[k] for k in range(64)])
        self.assertEqual(found[64:], [[0], [-6], [-6], [1, 0, 1, 5], [-4]])

    def test_one_too_many_changes_nothing(self):
        book = Book()
        book.made(0, 5)
        for number in range(64):
            book.mark()
        book.went(0)
        before = state(book)
        self.assertEqual(book.mark(), [-6])
        self.assertEqual(state(book), before)

    def test_begin_leaves_no_mark(self):
        found = ask(*[("mark",)] * 64, ("begin",), ("since", 0), ("since", 63), ("mark",), ("since", 0))
        self.assertEqual(found[64:], [[0], [-4], [-4], [0], [0]])


class Since(unittest.TestCase):
    def test_nothing_has_come(self):
        self.assertEqual(last(*FILLED, ("mark",), ("since", 0)), [0])

    def test_pieces_and_bytes_more(self):
        self.assertEqual(last(*FILLED, ("mark",), ("made", 100, 7), ("enter", 4), ("made", 200, 1), ("made", 201, 2),
                              ("since", 0)), [2, 0, 1, 7, 1, 2, 3])

    def test_fewer_are_below_zero(self):
        self.assertEqual(last(*FILLED, ("mark",), ("went", 0), ("went", 16), ("since", 0)),
                         [2, 1, -1, -8, 2, -1, -3])

    def test_own_alone_and_not_with_all_below(self):
        self.assertEqual(last(*FILLED, ("mark",), ("went", 16), ("since", 0)), [1, 2, -1, -3])

    def test_nodes_newer_than_the_mark(self):
        self.assertEqual(last(*FILLED, ("mark",), ("enter", 6), ("made", 50, 4), ("enter", 7), ("made", 60, 0),
                              ("enter", 8), ("since", 0)), [2, 3, 1, 4, 4, 1, 0])

    def test_a_newer_node_whose_pieces_went(self):
        self.assertEqual(last(("mark",), ("enter", 6), ("made", 50, 4), ("went", 50), ("since", 0)), [0])

    def test_as_many_pieces_of_other_bytes(self):
        self.assertEqual(last(*FILLED, ("mark",), ("moved", 0, 0, 2), ("moved", 16, 40, 9), ("since", 0)),
                         [2, 1, 0, -6, 2, 0, 6])

    def test_as_many_bytes_in_other_pieces(self):
        self.assertEqual(last(*FILLED, ("mark",), ("made", 70, 0), ("enter", 4), ("went", 0), ("moved", 8, 40, 16),
                              ("since", 0)), [2, 0, 1, 0, 1, -1, 0])

    def test_other_pieces_with_the_same_sums_are_no_change(self):
        self.assertEqual(last(*FILLED, ("mark",), ("enter", 4), ("went", 0), ("made", 90, 8), ("moved", 8, 0, 8),
                              ("since", 0)), [0])

    def test_more_pieces_and_fewer_bytes(self):
        self.assertEqual(last(*FILLED, ("mark",), ("enter", 4), ("moved", 0, 0, 1), ("made", 90, 2), ("since", 0)),
                         [1, 1, 1, -5])

    def test_each_mark_for_itself(self):
        found = ask(("mark",), ("made", 0, 4), ("mark",), ("enter", 1), ("made", 8, 5), ("mark",), ("went", 0),
                    ("since", 0), ("since", 1), ("since", 2), ("since", 0))
        self.assertEqual(found[7:], [[1, 1, 1, 5], [2, 0, -1, -4, 1, 1, 5], [1, 0, -1, -4], [1, 1, 1, 5]])

    def test_a_mark_that_is_not_there(self):
        self.assertEqual(ask(("since", 0), ("mark",), ("since", 0), ("since", 1), ("since", 64), ("since", HUGE)),
                         [[-4], [0], [0], [-4], [-4], [-4]])

    def test_great_sums_are_exact(self):
        calls = [("made", k * 2 ** 32, SIZE) for k in range(250)]
        self.assertEqual(last(("mark",), *calls, ("since", 0)), [1, 0, 250, 250 * SIZE])
        self.assertEqual(last(*calls, ("mark",), *[("went", k * 2 ** 32) for k in range(250)], ("since", 0)),
                         [1, 0, -250, -250 * SIZE])


if __name__ == "__main__":
    unittest.main()
