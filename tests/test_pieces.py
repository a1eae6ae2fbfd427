"""Points 4, 5 and 6: made, went and moved."""

import unittest

from piecebook.book import Book
from tests.helper import HUGE, PLACE, SIZE, ask, last, state


def full_book():
    """A book with 65536 pieces that live, of two bytes each, one behind another from place 16 on."""
    book = Book()
    for number in range(65536):
        book.made(16 + 2 * number, 2)
    return book


class Made(unittest.TestCase):
    def test_pieces_are_numbered_as_they_are_made(self):
        self.assertEqual(ask(("made", 64, 8), ("made", 0, 8), ("went", 64), ("made", 64, 8), ("made", 32, 0)),
                         [[0], [1], [0], [2], [3]])

    def test_pieces_side_by_side(self):
        self.assertEqual(ask(("made", 8, 8), ("made", 16, 8), ("made", 0, 8)), [[0], [1], [2]])

    def test_pieces_on_one_another(self):
        tries = [(8, 8), (8, 1), (15, 1), (11, 2), (15, 9), (7, 2), (0, 9), (0, 99), (8, 0), (12, 0), (15, 0)]
        self.assertEqual(ask(("made", 8, 8), *[("made", *there) for there in tries], ("made", 16, 1))[1:],
                         [[-3]] * len(tries) + [[1]])

    def test_a_piece_of_no_size_beside_another(self):
        self.assertEqual(ask(("made", 8, 8), ("made", 7, 0), ("made", 16, 0)), [[0], [1], [2]])

    def test_a_piece_of_no_size_has_its_place_for_itself(self):
        self.assertEqual(ask(("made", 8, 0), ("made", 8, 0), ("made", 8, 4), ("made", 4, 5), ("made", 4, 4),
                             ("made", 9, 1), ("made", 0, 99)),
                         [[0], [-3], [-3], [-3], [1], [2], [-3]])

    def test_pieces_of_no_size_one_beside_another(self):
        self.assertEqual(ask(("made", 8, 0), ("made", 9, 0), ("made", 7, 0)), [[0], [1], [2]])

    def test_a_piece_among_many(self):
        calls = [("made", place, 4) for place in (40, 0, 80, 20, 60)]
        self.assertEqual(ask(*calls, ("made", 24, 17), ("made", 24, 16), ("made", 63, 1), ("made", 64, 16))[5:],
                         [[-3], [5], [-3], [6]])

    def test_the_greatest_place_and_one_beyond(self):
        self.assertEqual(ask(("made", PLACE, 1), ("made", PLACE + 1, 1), ("made", HUGE, 0), ("made", PLACE - 1, 1)),
                         [[0], [-8], [-8], [1]])

    def test_bytes_may_reach_behind_the_greatest_place(self):
        self.assertEqual(ask(("made", PLACE, SIZE), ("made", PLACE - 4, 5), ("made", PLACE - 4, 4)),
                         [[0], [-3], [1]])

    def test_the_greatest_size_and_one_beyond(self):
        self.assertEqual(ask(("made", 0, SIZE), ("made", SIZE - 1, 1), ("made", SIZE, 1),
                             ("made", SIZE + 1, SIZE + 1), ("made", SIZE + 1, HUGE), ("made", SIZE + 1, SIZE)),
                         [[0], [-3], [1], [-8], [-8], [2]])

    def test_out_of_range_comes_before_not_free(self):
        self.assertEqual(ask(("made", 0, 8), ("made", 0, SIZE + 1), ("made", PLACE + 1, 8)), [[0], [-8], [-8]])

    def test_a_refused_piece_has_no_number(self):
        self.assertEqual(ask(("made", 0, 8), ("made", 4, 8), ("made", PLACE + 1, 8), ("made", 8, 8)),
                         [[0], [-3], [-8], [1]])


class MadeOnTheBookItself(unittest.TestCase):
    def test_as_many_pieces_as_may_live(self):
        book = full_book()
        self.assertEqual(book.now()[2], 65536)
        before = state(book)
        self.assertEqual(book.made(0, 1), [-6])
        self.assertEqual(book.made(0, 0), [-6])
        self.assertEqual(book.made(16, 0), [-3])
        self.assertEqual(book.made(0, 17), [-3])
        self.assertEqual(book.made(PLACE + 1, 1), [-8])
        self.assertEqual(state(book), before)
        self.assertEqual(book.moved(16, 0, 9), [0])
        self.assertEqual(book.made(16, 1), [-6])
        self.assertEqual(book.went(18), [0])
        self.assertEqual(book.made(16, 4), [65536])
        self.assertEqual(book.made(10, 1), [-6])

    def test_one_piece_less_leaves_room_for_one(self):
        book = full_book()
        book.went(16)
        self.assertEqual([book.made(0, 1), book.made(1, 1)], [[65536], [-6]])

    def test_full_comes_before_too_great_a_sum(self):
        book = full_book()
        book.made_bytes = 2 ** 63 - 1
        self.assertEqual(book.made(0, 1), [-6])
        book.went(16)
        self.assertEqual(book.made(0, 1), [-7])

    def test_too_great_a_sum_of_bytes_made(self):
        book = Book()
        book.made(0, 8)
        book.made_bytes = 2 ** 63 - 10
        before = state(book)
        self.assertEqual(book.made(16, 10), [-7])
        self.assertEqual(book.made(16, SIZE), [-7])
        self.assertEqual(book.made(7, 10), [-3])
        self.assertEqual(book.made(16, SIZE + 1), [-8])
        self.assertEqual(state(book), before)
        self.assertEqual(book.made(16, 9), [1])
        self.assertEqual(book.now()[7], 2 ** 63 - 1)
        self.assertEqual(book.made(32, 1), [-7])
        self.assertEqual(book.made(32, 0), [2])

    def test_moved_makes_no_bytes_and_is_never_too_great(self):
        book = Book()
        book.made(0, 8)
        book.made_bytes = 2 ** 63 - 1
        self.assertEqual(book.moved(0, 0, SIZE), [0])
        self.assertEqual(book.now()[7], 2 ** 63 - 1)


class Went(unittest.TestCase):
    def test_age(self):
        self.assertEqual(ask(("tick", 5), ("made", 0, 8), ("tick", 7), ("made", 8, 8), ("tick", 2),
                             ("went", 0), ("went", 8))[5:], [[9], [2]])

    def test_age_of_none(self):
        self.assertEqual(last(("tick", 5), ("made", 0, 8), ("went", 0)), [0])

    def test_a_piece_goes_once(self):
        self.assertEqual(ask(("made", 0, 8), ("went", 0), ("went", 0)), [[0], [0], [-4]])

    def test_only_its_place_names_a_piece(self):
        self.assertEqual(ask(("made", 8, 8), *[("went", place) for place in (7, 9, 15, 16, 8)])[1:],
                         [[-4], [-4], [-4], [-4], [0]])

    def test_its_bytes_are_free_again(self):
        self.assertEqual(ask(("made", 8, 8), ("went", 8), ("made", 4, 8), ("made", 12, 8)), [[0], [0], [1], [2]])

    def test_the_greatest_place_and_one_beyond(self):
        self.assertEqual(ask(("went", PLACE), ("made", PLACE, 0), ("went", PLACE), ("went", PLACE + 1),
                             ("went", HUGE)), [[-4], [0], [0], [-8], [-8]])


class Moved(unittest.TestCase):
    def test_a_piece_keeps_its_number_and_age(self):
        self.assertEqual(ask(("made", 0, 8), ("made", 8, 8), ("tick", 4), ("moved", 8, 100, 3), ("tick", 5),
                             ("went", 8), ("went", 100)), [[0], [1], [0], [1], [0], [-4], [9]])

    def test_a_piece_keeps_its_node(self):
        found = ask(("enter", 1), ("made", 0, 8), ("unwind", 0), ("enter", 2), ("moved", 0, 8, 5),
                    ("node", 1), ("node", 2))
        self.assertEqual(found[5:], [[0, 1, 1, 8, 1, 5, 8, 1, 5, 8], [0, 2, 0, 0, 0, 0, 0, 0, 0, 0]])

    def test_over_its_own_old_bytes(self):
        for there in ((0, 8), (8, 8), (12, 8), (15, 1), (4, 8), (0, 99), (8, 0), (8, 9), (10, 2), (12, 0)):
            self.assertEqual(ask(("made", 8, 8), ("moved", 8, *there), ("went", there[0])), [[0], [0], [0]])

    def test_a_piece_of_no_size_over_its_own_old_place(self):
        self.assertEqual(ask(("made", 8, 0), ("moved", 8, 4, 9), ("moved", 4, 4, 0), ("made", 5, 9)),
                         [[0], [0], [0], [1]])

    def test_the_old_bytes_are_free_and_the_new_ones_not(self):
        self.assertEqual(ask(("made", 8, 8), ("moved", 8, 12, 8), ("made", 8, 5), ("made", 8, 4), ("made", 19, 1),
                             ("made", 20, 1)), [[0], [0], [-3], [1], [-3], [2]])

    def test_onto_a_neighbour(self):
        setup = [("made", 0, 8), ("made", 8, 8), ("made", 16, 8)]
        tries = [(8, 9), (7, 2), (0, 8), (16, 8), (7, 0), (16, 0), (20, 0), (3, 2), (0, 99), (23, 9)]
        for there in tries:
            self.assertEqual(last(*setup, ("moved", 8, *there)), [-3])
        for there in [(8, 0), (12, 4), (24, 8), (9, 7)]:
            self.assertEqual(last(*setup, ("moved", 8, *there)), [1])

    def test_across_its_own_old_bytes_onto_a_further_piece(self):
        setup = [("made", 0, 9), ("made", 10, 2), ("made", 14, 0), ("made", 20, 4)]
        self.assertEqual(last(*setup, ("moved", 10, 9, 6)), [-3])
        self.assertEqual(last(*setup, ("moved", 10, 9, 5)), [1])
        self.assertEqual(last(*setup, ("moved", 10, 8, 1)), [-3])
        self.assertEqual(last(*setup, ("moved", 14, 12, 9)), [-3])
        self.assertEqual(last(*setup, ("moved", 14, 12, 8)), [2])
        self.assertEqual(last(*setup, ("moved", 14, 11, 9)), [-3])
        self.assertEqual(last(*setup, ("moved", 14, 23, 0)), [-3])
        # the lower neighbour of the piece that moves reaches up to the new place
        self.assertEqual(last(("made", 0, 10), ("made", 10, 1), ("moved", 10, 11, 4)), [1])
        self.assertEqual(last(("made", 12, 2), ("made", 20, 0), ("moved", 20, 13, 1)), [-3])

    def test_no_piece_has_the_place(self):
        self.assertEqual(ask(("made", 8, 8), ("moved", 9, 100, 1), ("moved", 16, 100, 1), ("went", 8),
                             ("moved", 8, 100, 1)), [[0], [-4], [-4], [0], [-4]])

    def test_no_piece_comes_before_not_free(self):
        self.assertEqual(ask(("made", 8, 8), ("moved", 9, 8, 8), ("moved", 0, 10, 1)), [[0], [-4], [-4]])

    def test_out_of_range_comes_first(self):
        tries = [(PLACE + 1, 0, 1), (8, PLACE + 1, 1), (8, 0, SIZE + 1), (9, 8, SIZE + 1), (9, PLACE + 1, 0),
                 (HUGE, 8, 8), (8, HUGE, 8), (8, 8, HUGE), (8, 16, HUGE)]
        self.assertEqual(ask(("made", 8, 8), ("made", 16, 8), *[("moved", *there) for there in tries])[2:],
                         [[-8]] * len(tries))

    def test_the_greatest_place_and_size(self):
        self.assertEqual(ask(("made", 8, 8), ("moved", 8, PLACE, 0), ("moved", PLACE, 0, SIZE),
                             ("moved", 0, PLACE, SIZE), ("went", PLACE)), [[0], [0], [0], [0], [0]])

    def test_the_piece_is_still_there_behind_a_refusal(self):
        self.assertEqual(ask(("made", 8, 8), ("made", 16, 8), ("tick", 3), ("moved", 8, 12, 8), ("made", 8, 1),
                             ("went", 12), ("went", 8))[3:], [[-3], [-3], [-4], [3]])

    def test_the_next_piece_has_the_next_number(self):
        self.assertEqual(last(("made", 8, 8), ("moved", 8, 0, 8), ("made", 8, 8)), [1])


if __name__ == "__main__":
    unittest.main()
