"""Points 14 and 15: holds and share."""

import unittest

from piecebook.book import Book
from tests.helper import HUGE, PLACE, SIZE, ask, last


class Holds(unittest.TestCase):
    def test_the_first_and_the_last_byte_and_those_beside(self):
        calls = [("made", 50, 1), ("enter", 3), ("made", 8, 4)]
        self.assertEqual(ask(*calls, *[("holds", at) for at in (7, 8, 9, 11, 12)])[3:],
                         [[-4], [1, 8, 4, 1], [1, 8, 4, 1], [1, 8, 4, 1], [-4]])

    def test_pieces_side_by_side(self):
        calls = [("made", 4, 4), ("made", 0, 4), ("made", 8, 1)]
        self.assertEqual(ask(*calls, *[("holds", at) for at in (0, 3, 4, 7, 8, 9)])[3:],
                         [[1, 0, 4, 0], [1, 0, 4, 0], [0, 4, 4, 0], [0, 4, 4, 0], [2, 8, 1, 0], [-4]])

    def test_a_piece_of_no_size_has_no_byte(self):
        self.assertEqual(ask(("made", 8, 0), ("holds", 7), ("holds", 8), ("holds", 9)), [[0], [-4], [-4], [-4]])
        self.assertEqual(last(("made", 0, 8), ("made", 8, 0), ("holds", 8)), [-4])
        self.assertEqual(last(("made", 0, 8), ("made", 8, 0), ("made", 9, 1), ("holds", 9)), [2, 9, 1, 0])

    def test_an_empty_book(self):
        self.assertEqual(ask(("holds", 0), ("holds", PLACE)), [[-4], [-4]])

    def test_a_piece_that_went(self):
        self.assertEqual(last(("made", 8, 4), ("went", 8), ("holds", 9)), [-4])

    def test_a_piece_that_was_moved(self):
        found = ask(("enter", 1), ("made", 8, 4), ("leave",), ("moved", 8, 10, 6), ("holds", 9), ("holds", 10),
                    ("holds", 15), ("holds", 16))
        self.assertEqual(found[4:], [[-4], [0, 10, 6, 1], [0, 10, 6, 1], [-4]])

    def test_the_greatest_place_and_one_beyond(self):
        self.assertEqual(ask(("made", PLACE, 1), ("holds", PLACE), ("holds", PLACE + 1), ("holds", HUGE),
                             ("holds", PLACE - 1)), [[0], [0, PLACE, 1, 0], [-8], [-8], [-4]])

    def test_the_greatest_piece(self):
        self.assertEqual(ask(("made", 5, SIZE), ("holds", 4), ("holds", 4 + SIZE), ("holds", 5 + SIZE)),
                         [[0], [-4], [0, 5, SIZE, 0], [-4]])


class Share(unittest.TestCase):
    # ten pieces of sizes 1 to 10, in an order of no sense, and ages 9 down to 0
    calls = [call for number, size in enumerate((7, 2, 10, 4, 1, 9, 3, 8, 6, 5))
             for call in (("tick", 1), ("made", 100 * number, size))]

    def shares(self, what, *ps):
        return [answer[1] for answer in ask(*self.calls, *[("share", what, p) for p in ps])[20:] if answer[0] == 0]

    def test_pieces_by_size(self):
        self.assertEqual(self.shares(0, 1, 999, 1000, 1001, 5000, 5001, 9000, 9001, 9999, 10000),
                         [1, 1, 1, 2, 5, 6, 9, 10, 10, 10])

    def test_bytes_by_size(self):
        # of 55 bytes 1, 3, 6, 10, 15, 21, 28, 36, 45 and 55 are in pieces of no more
        self.assertEqual(self.shares(1, 1, 181, 182, 545, 546, 5000, 5090, 5091, 8181, 8182, 10000),
                         [1, 1, 2, 2, 3, 7, 7, 8, 9, 10, 10])

    def test_pieces_by_age(self):
        self.assertEqual(self.shares(2, 1, 1000, 1001, 5000, 5001, 9000, 9001, 10000), [0, 0, 1, 4, 5, 8, 9, 9])

    def test_age_goes_on_with_time(self):
        self.assertEqual(last(("made", 0, 5), ("tick", 4), ("made", 9, 1), ("tick", 6), ("share", 2, 5000)), [0, 6])
        self.assertEqual(last(("made", 0, 5), ("tick", 4), ("made", 9, 1), ("tick", 6), ("share", 2, 5001)), [0, 10])

    def test_pieces_of_one_size(self):
        calls = [("made", 0, 3), ("made", 10, 3), ("made", 20, 3), ("made", 30, 8)]
        self.assertEqual(ask(*calls, ("share", 0, 1), ("share", 0, 7500), ("share", 0, 7501))[4:],
                         [[0, 3], [0, 3], [0, 8]])

    def test_the_share_is_exact(self):
        calls = [("made", 0, 1), ("made", 10, 2), ("made", 20, 3)]
        self.assertEqual(ask(*calls, ("share", 0, 3333), ("share", 0, 3334), ("share", 0, 6666), ("share", 0, 6667))[3:],
                         [[0, 1], [0, 2], [0, 2], [0, 3]])

    def test_only_what_lives_and_as_it_is_now(self):
        calls = [("made", 0, 1), ("made", 10, 2), ("made", 20, 3), ("went", 0), ("moved", 10, 30, 9)]
        self.assertEqual(ask(*calls, ("share", 0, 1), ("share", 0, 10000), ("share", 1, 2500), ("share", 1, 2501))[5:],
                         [[0, 3], [0, 9], [0, 3], [0, 9]])

    def test_p_of_none_of_all_and_beyond(self):
        for what in range(3):
            self.assertEqual(ask(("made", 0, 5), ("share", what, 0), ("share", what, 10001), ("share", what, HUGE)),
                             [[0], [-8], [-8], [-8]])
        self.assertEqual(ask(("made", 0, 5), ("share", 0, 1), ("share", 0, 10000), ("share", 1, 1),
                             ("share", 1, 10000), ("share", 2, 1), ("share", 2, 10000))[1:],
                         [[0, 5]] * 4 + [[0, 0]] * 2)

    def test_what_of_two_and_beyond(self):
        self.assertEqual(ask(("made", 0, 5), ("share", 2, 5), ("share", 3, 5), ("share", HUGE, 5), ("share", 3, 0)),
                         [[0], [0, 0], [-8], [-8], [-8]])

    def test_no_piece(self):
        tries = [("share", what, p) for what in range(3) for p in (1, 10000)]
        self.assertEqual(ask(*tries), [[-4]] * 6)
        self.assertEqual(ask(("made", 0, 5), ("went", 0), *tries)[2:], [[-4]] * 6)

    def test_out_of_range_comes_before_no_piece(self):
        self.assertEqual(ask(("share", 3, 1), ("share", 0, 0), ("share", 1, 10001)), [[-8], [-8], [-8]])

    def test_pieces_of_no_size_alone(self):
        calls = [("made", 0, 0), ("tick", 3), ("made", 1, 0)]
        self.assertEqual(ask(*calls, ("share", 0, 10000), ("share", 1, 1), ("share", 1, 10000), ("share", 2, 5001))[3:],
                         [[0, 0], [-4], [-4], [0, 3]])

    def test_pieces_of_no_size_among_others(self):
        calls = [("made", 0, 0), ("made", 1, 0), ("made", 2, 0), ("made", 3, 6)]
        self.assertEqual(ask(*calls, ("share", 0, 7500), ("share", 0, 7501), ("share", 1, 1))[4:],
                         [[0, 0], [0, 6], [0, 6]])

    def test_the_greatest_sizes_and_ages(self):
        calls = [("made", k * 2 ** 32, SIZE - k) for k in range(4)]
        self.assertEqual(ask(*calls, ("share", 1, 2500), ("share", 1, 10000))[4:], [[0, SIZE - 2], [0, SIZE]])
        book = Book()
        book.made(0, 1)
        book.time = 2 ** 63 - 1
        book.made(1, 1)
        self.assertEqual([book.share(2, 5000), book.share(2, 5001)], [[0, 0], [0, 2 ** 63 - 1]])


if __name__ == "__main__":
    unittest.main()
