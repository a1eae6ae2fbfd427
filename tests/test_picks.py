"""Point 16: pick and picked."""

import random
import unittest

from piecebook.book import Book
from tests.helper import HUGE, SIZE, ask, last


class Pick(unittest.TestCase):
    def test_none_at_first(self):
        self.assertEqual(ask(("made", 0, 100), ("picked",), ("pick", 1), ("picked",)), [[0], [0], [0], [0]])

    def test_each_byte_at_a_rate_of_one(self):
        self.assertEqual(ask(("pick", 1), ("made", 0, 5), ("enter", 3), ("made", 10, 2), ("picked",), ("pick", 1)),
                         [[0], [0], [1], [1], [2, 0, 5, 5, 1, 2, 2], [7]])

    def test_each_rate_th_of_the_bytes_one_after_another(self):
        found = ask(("pick", 4), ("made", 0, 3), ("picked",), ("enter", 1), ("made", 10, 1), ("picked",),
                    ("made", 20, 9), ("picked",), ("leave",), ("made", 30, 2), ("picked",), ("made", 40, 1),
                    ("picked",), ("pick", 0))
        self.assertEqual([found[k] for k in (2, 5, 7, 10, 12, 13)],
                         [[0], [1, 1, 1, 4], [1, 1, 3, 12], [1, 1, 3, 12], [2, 0, 1, 4, 1, 3, 12], [4]])

    def test_a_rate_greater_than_a_piece(self):
        calls = [("pick", 10)]
        for place in range(0, 70, 10):
            calls += [("made", place, 3)]
        self.assertEqual(ask(*calls, ("picked",), ("pick", 1))[8:], [[1, 0, 2, 20], [2]])

    def test_more_picked_of_one_piece(self):
        self.assertEqual(last(("pick", 10), ("made", 0, 39), ("picked",)), [1, 0, 3, 30])
        self.assertEqual(last(("pick", 10), ("made", 0, 40), ("picked",)), [1, 0, 4, 40])

    def test_pieces_of_no_size_have_no_byte_to_pick(self):
        self.assertEqual(last(("pick", 1), ("made", 0, 0), ("picked",)), [0])
        self.assertEqual(last(("pick", 2), ("made", 0, 1), ("made", 1, 0), ("made", 2, 1), ("picked",)),
                         [1, 0, 1, 2])

    def test_a_rate_of_zero_ends_it(self):
        found = ask(("pick", 2), ("made", 0, 6), ("pick", 0), ("made", 10, 100), ("picked",), ("pick", 0))
        self.assertEqual(found[2:], [[3], [1], [1, 0, 3, 6], [3]])

    def test_the_counting_begins_anew(self):
        self.assertEqual(last(("pick", 4), ("made", 0, 3), ("pick", 4), ("made", 10, 3), ("picked",)), [0])
        self.assertEqual(last(("pick", 4), ("made", 0, 3), ("pick", 4), ("made", 10, 4), ("picked",)), [1, 0, 1, 4])
        self.assertEqual(last(("pick", 4), ("made", 0, 3), ("pick", 0), ("pick", 4), ("made", 10, 1), ("picked",)), [0])

    def test_each_byte_at_the_rate_at_which_it_was_picked(self):
        found = ask(("pick", 4), ("made", 0, 9), ("pick", 3), ("made", 10, 7), ("enter", 2), ("made", 20, 2),
                    ("picked",), ("pick", 5), ("made", 30, 5), ("picked",), ("pick", 9))
        self.assertEqual([found[k] for k in (2, 6, 7, 9, 10)],
                         [[2], [2, 0, 4, 14, 1, 1, 3], [5], [2, 0, 4, 14, 1, 2, 8], [6]])

    def test_picks_of_a_piece_that_is_gone(self):
        self.assertEqual(ask(("pick", 2), ("made", 0, 6), ("went", 0), ("picked",), ("made", 0, 3), ("went", 0),
                             ("made", 0, 1), ("picked",), ("pick", 2))[3:],
                         [[1, 0, 3, 6], [1], [0], [2], [1, 0, 5, 10], [5]])

    def test_moved_makes_no_bytes(self):
        self.assertEqual(ask(("pick", 2), ("made", 0, 3), ("moved", 0, 9, 100), ("picked",), ("made", 0, 1), ("picked",),
                             ("moved", 9, 9, 0), ("picked",))[3:],
                         [[1, 0, 1, 2], [1], [1, 0, 2, 4], [0], [1, 0, 2, 4]])

    def test_refused_pieces_have_no_byte_to_pick(self):
        self.assertEqual(last(("pick", 2), ("made", 0, 3), ("made", 2, 9), ("made", 9, SIZE + 1), ("picked",)),
                         [1, 0, 1, 2])

    def test_a_piece_is_picked_of_the_way_as_it_stands(self):
        self.assertEqual(last(("pick", 2), ("enter", 1), ("enter", 2), ("made", 0, 4), ("leave",), ("made", 9, 2),
                              ("unwind", 0), ("made", 20, 1), ("picked",)), [2, 1, 1, 2, 2, 2, 4])

    def test_the_greatest_rate_and_one_beyond(self):
        self.assertEqual(ask(("pick", SIZE), ("made", 0, SIZE), ("pick", SIZE), ("made", 2 ** 40 - 1, SIZE - 1),
                             ("picked",), ("made", 2 ** 39, 1), ("picked",), ("pick", 0)),
                         [[0], [0], [1], [1], [1, 0, 1, SIZE], [2], [1, 0, 2, 2 * SIZE], [2]])
        self.assertEqual(ask(("pick", 2), ("made", 0, 3), ("pick", SIZE + 1), ("pick", HUGE), ("made", 9, 1),
                             ("picked",)), [[0], [0], [-8], [-8], [1], [1, 0, 2, 4]])

    def test_great_sums_are_exact(self):
        calls = [call for step in range(1000) for call in (("made", 0, SIZE), ("went", 0))]
        self.assertEqual(ask(("pick", 1), *calls, ("picked",), ("pick", 0))[2001:],
                         [[1, 0, 1000 * SIZE, 1000 * SIZE], [1000 * SIZE]])
        picked = 1000 * SIZE // 7
        self.assertEqual(last(("pick", 7), *calls, ("picked",)), [1, 0, picked, 7 * picked])

    def test_byte_by_byte(self):
        for seed in range(40):
            draw = random.Random(seed)
            calls = []
            expected = {}
            rate = count = 0
            for step in range(60):
                if draw.randrange(6) == 0:
                    rate = draw.randrange(9)
                    count = 0
                    calls.append(("pick", rate))
                node = draw.randrange(3)
                size = draw.randrange(12)
                calls += [("unwind", 0)] + [("enter", 1)] * node + [("made", 100 * step, size)]
                for byte in range(size if rate else 0):
                    count += 1
                    if count % rate == 0:
                        expected.setdefault(node, []).append(rate)
            rows = [number for node in sorted(expected) for number in (node, len(expected[node]), sum(expected[node]))]
            found = ask(("enter", 1), ("enter", 1), *calls, ("picked",), ("pick", 0))
            self.assertEqual(found[-2:], [[len(expected), *rows], [sum(map(len, expected.values()))]])

    def test_too_great_a_sum_picks_nothing(self):
        book = Book()
        book.pick(2)
        book.made(0, 3)
        book.made_bytes = 2 ** 63 - 2
        self.assertEqual(book.made(8, 2), [-7])
        self.assertEqual(book.picked(), [1, 0, 1, 2])
        self.assertEqual(book.made(8, 1), [1])
        self.assertEqual(book.picked(), [1, 0, 2, 4])

    def test_begin_leaves_no_picks(self):
        found = ask(("pick", 2), ("made", 0, 5), ("begin",), ("picked",), ("made", 0, 9), ("picked",), ("pick", 2),
                    ("made", 9, 1), ("picked",), ("made", 10, 1), ("picked",))
        self.assertEqual(found[2:], [[0], [0], [0], [0], [0], [1], [0], [2], [1, 0, 1, 2]])


if __name__ == "__main__":
    unittest.main()
