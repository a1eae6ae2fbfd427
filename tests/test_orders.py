"""Points 11 and 12: oldest and top."""

import unittest

from piecebook.book import Book
from tests.helper import HUGE, SIZE, ask, last, rows_of


class Oldest(unittest.TestCase):
    calls = [("enter", 4), ("made", 50, 5), ("tick", 2), ("enter", 5), ("made", 10, 1), ("made", 0, 0),
             ("tick", 3), ("leave",), ("made", 20, 2), ("tick", 4)]

    def test_those_that_have_lived_longest_first(self):
        self.assertEqual(last(*self.calls, ("oldest", 1024)),
                         [4, 50, 5, 1, 9, 10, 1, 2, 7, 0, 0, 2, 7, 20, 2, 1, 4])

    def test_no_more_than_asked_for(self):
        whole = last(*self.calls, ("oldest", 1024))
        for k in range(5):
            self.assertEqual(last(*self.calls, ("oldest", k)), [k] + whole[1:1 + 4 * k])

    def test_of_those_as_old_the_lower_number_first(self):
        self.assertEqual(last(("made", 30, 1), ("made", 20, 2), ("made", 10, 3), ("tick", 1), ("oldest", 2)),
                         [2, 30, 1, 0, 1, 20, 2, 0, 1])

    def test_a_moved_piece_is_as_old_and_keeps_its_number(self):
        self.assertEqual(last(("made", 30, 1), ("made", 20, 2), ("tick", 1), ("made", 10, 3), ("moved", 30, 99, 7),
                              ("tick", 1), ("oldest", 9)),
                         [3, 99, 7, 0, 2, 20, 2, 0, 2, 10, 3, 0, 1])

    def test_a_piece_that_went_is_left_out(self):
        self.assertEqual(last(*self.calls, ("went", 50), ("oldest", 1)), [1, 10, 1, 2, 7])

    def test_no_piece(self):
        self.assertEqual(ask(("oldest", 0), ("oldest", 5), ("made", 0, 1), ("oldest", 0)), [[0], [0], [0], [0]])

    def test_as_many_as_may_be_asked_for_and_one_more(self):
        calls = [("made", place, 1) for place in range(1100)]
        found = ask(*calls, ("oldest", 1023), ("oldest", 1024), ("oldest", 1025), ("oldest", HUGE))[1100:]
        self.assertEqual([answer[0] for answer in found], [1023, 1024, -8, -8])
        self.assertEqual([row[0] for row in rows_of(found[1], 4)], list(range(1024)))
        self.assertEqual(found[2:], [[-8], [-8]])

    def test_the_greatest_age(self):
        book = Book()
        book.made(7, 3)
        book.time = 2 ** 63 - 1
        book.made(0, 1)
        self.assertEqual(book.oldest(2), [2, 7, 3, 0, 2 ** 63 - 1, 0, 1, 0, 0])


class Top(unittest.TestCase):
    # node 0: 1 live of 1; 1: 2 of 6, greatest 6; 2: 8 of 8; 3: 16 of 16; 4: 0 of 32, greatest 32; 5: nothing
    calls = [
        ("made", 0, 1),
        ("enter", 5), ("made", 10, 2), ("made", 20, 4),
        ("enter", 6), ("made", 30, 8),
        ("unwind", 0), ("enter", 7), ("made", 40, 16),
        ("enter", 5), ("made", 60, 32), ("went", 20), ("went", 60), ("enter", 1)]

    def test_own_live_bytes(self):
        self.assertEqual(last(*self.calls, ("top", 0, 1024)), [4, 3, 16, 2, 8, 1, 2, 0, 1])

    def test_own_bytes_made(self):
        self.assertEqual(last(*self.calls, ("top", 1, 1024)), [5, 4, 32, 3, 16, 2, 8, 1, 6, 0, 1])

    def test_the_greatest_own_live_bytes(self):
        calls = [*self.calls, ("moved", 40, 100, 64), ("moved", 100, 40, 3), ("unwind", 0), ("made", 200, 0)]
        self.assertEqual(last(*calls, ("top", 2, 1024)), [5, 3, 64, 4, 32, 2, 8, 1, 6, 0, 1])
        self.assertEqual(last(*calls, ("top", 1, 1024)), [5, 4, 32, 3, 16, 2, 8, 1, 6, 0, 1])

    def test_live_bytes_with_all_below(self):
        self.assertEqual(last(*self.calls, ("top", 3, 1024)), [4, 0, 27, 3, 16, 1, 10, 2, 8])

    def test_no_more_than_asked_for(self):
        for by in range(4):
            whole = last(*self.calls, ("top", by, 1024))
            for k in range(5):
                answer = last(*self.calls, ("top", by, k))
                self.assertEqual(answer, [min(k, whole[0])] + whole[1:1 + 2 * k])

    def test_of_those_with_as_much_the_lower_number_first(self):
        calls = []
        for who, size in enumerate((4, 9, 4, 9, 4)):
            calls += [("enter", who), ("made", 10 * who, size), ("leave",)]
        for by in range(3):
            self.assertEqual(last(*calls, ("top", by, 9)), [5, 2, 9, 4, 9, 1, 4, 3, 4, 5, 4])
            self.assertEqual(last(*calls, ("top", by, 3)), [3, 2, 9, 4, 9, 1, 4])
        self.assertEqual(last(*calls, ("top", 3, 4)), [4, 0, 30, 2, 9, 4, 9, 1, 4])

    def test_a_way_with_as_much_as_what_is_below_it(self):
        self.assertEqual(last(("enter", 1), ("enter", 2), ("made", 0, 6), ("top", 3, 9)), [3, 0, 6, 1, 6, 2, 6])

    def test_nodes_with_none_are_left_out(self):
        calls = [("enter", 1), ("made", 0, 0), ("enter", 2), ("made", 8, 3), ("went", 8)]
        self.assertEqual(ask(*calls, *[("top", by, 9) for by in range(4)])[5:], [[0], [1, 2, 3], [1, 2, 3], [0]])

    def test_nothing_asked_for(self):
        self.assertEqual(ask(("top", 0, 0), ("made", 0, 4), ("top", 0, 0), ("top", 3, 0)), [[0], [0], [0], [0]])

    def test_what_it_goes_by_and_one_beyond(self):
        self.assertEqual(ask(("made", 0, 4), ("top", 3, 1), ("top", 4, 1), ("top", HUGE, 1), ("top", 4, 1025)),
                         [[0], [1, 0, 4], [-8], [-8], [-8]])

    def test_as_many_as_may_be_asked_for_and_one_more(self):
        calls = []
        for who in range(1100):
            calls += [("enter", who), ("made", who, 1), ("leave",)]
        found = ask(*calls, ("top", 0, 1024), ("top", 0, 1025), ("top", 3, HUGE))[3300:]
        self.assertEqual(found, [[1024, *[number for k in range(1, 1025) for number in (k, 1)]], [-8], [-8]])

    def test_great_sums_are_exact(self):
        calls = [call for step in range(1000) for call in (("made", 0, SIZE), ("went", 0))]
        self.assertEqual(last(*calls, ("enter", 3), ("made", 0, 1), ("top", 1, 2)), [2, 0, 1000 * SIZE, 1, 1])


if __name__ == "__main__":
    unittest.main()
