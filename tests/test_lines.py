"""Point 17: lines."""

import unittest

from piecebook.book import Book
from tests.helper import HUGE, SIZE, ask, last, state

CALLS = [("made", 0, 12), ("enter", 7), ("enter", 65535), ("made", 20, 300), ("made", 400, 5), ("enter", 0),
         ("made", 500, 9), ("unwind", 1), ("enter", 3), ("made", 600, 4), ("went", 600)]


def text_of(answer):
    """The text of an answer to lines."""
    if answer[0] != len(answer) - 1:
        raise AssertionError(f"{answer[0]} bytes told, {len(answer) - 1} there")
    return bytes(answer[1:]).decode("ascii")


def wide_book(tens):
    """A book whose text has a line of 386 bytes for each of 2716 nodes; of the first so many one byte more."""
    book = Book()
    for who in range(63):
        book.enter(10000 + who)
    for number in range(2716):
        book.enter(10000 + number)
        book.made(100 * number, 10 if number < tens else 1)
        book.leave()
    return book


class Lines(unittest.TestCase):
    def test_own_live_bytes(self):
        self.assertEqual(text_of(last(*CALLS, ("lines", 0))), " 12\n7;65535 305\n7;65535;0 9\n")

    def test_own_bytes_made(self):
        self.assertEqual(text_of(last(*CALLS, ("lines", 1))), " 12\n7;65535 305\n7;65535;0 9\n7;3 4\n")

    def test_an_empty_book(self):
        self.assertEqual(ask(("lines", 0), ("lines", 1)), [[0], [0]])

    def test_node_0_has_no_who(self):
        self.assertEqual(last(("made", 0, 5), ("lines", 0)), [3, 32, 53, 10])

    def test_who_0_is_told(self):
        self.assertEqual(last(("enter", 0), ("enter", 0), ("made", 0, 5), ("lines", 1)), [6, 48, 59, 48, 32, 53, 10])

    def test_nodes_with_none_are_left_out(self):
        calls = [("enter", 1), ("made", 0, 0), ("enter", 2), ("made", 8, 3), ("went", 8), ("enter", 3), ("made", 8, 2)]
        self.assertEqual(text_of(last(*calls, ("lines", 0))), "1;2;3 2\n")
        self.assertEqual(text_of(last(*calls, ("lines", 1))), "1;2 3\n1;2;3 2\n")

    def test_moved_is_followed_by_what_lives_alone(self):
        calls = [("enter", 1), ("made", 0, 3), ("moved", 0, 9, 40)]
        self.assertEqual(text_of(last(*calls, ("lines", 0))), "1 40\n")
        self.assertEqual(text_of(last(*calls, ("lines", 1))), "1 3\n")
        self.assertEqual(text_of(last(*calls, ("moved", 9, 9, 0), ("lines", 0))), "")

    def test_in_the_order_of_the_nodes(self):
        calls = [("enter", 9), ("leave",), ("enter", 2), ("made", 0, 1), ("unwind", 0), ("enter", 9), ("made", 5, 8)]
        self.assertEqual(text_of(last(*calls, ("lines", 0))), "9 8\n2 1\n")

    def test_the_longest_way(self):
        calls = [("enter", 65535 - who) for who in range(64)]
        self.assertEqual(text_of(last(*calls, ("made", 0, 1), ("lines", 0))),
                         ";".join([str(65535 - who) for who in range(64)]) + " 1\n")

    def test_great_sums_are_exact(self):
        calls = [call for step in range(1000) for call in (("made", 0, SIZE), ("went", 0))]
        self.assertEqual(text_of(last(*calls, ("lines", 1))), f" {1000 * SIZE}\n")

    def test_what_of_one_and_beyond(self):
        self.assertEqual(ask(("made", 0, 5), ("lines", 1), ("lines", 2), ("lines", HUGE)),
                         [[0], [3, 32, 53, 10], [-8], [-8]])

    def test_begin_leaves_no_line(self):
        self.assertEqual(ask(*CALLS, ("begin",), ("lines", 0), ("lines", 1))[11:], [[0], [0], [0]])


class LinesOnTheBookItself(unittest.TestCase):
    def test_as_many_bytes_as_may_be(self):
        book = wide_book(200)
        way = ";".join([str(10000 + who) for who in range(63)])
        text = "".join([f"{way};{10000 + number} {10 if number < 200 else 1}\n" for number in range(2716)])
        self.assertEqual(len(text), 1048576)
        for what in range(2):
            found = book.lines(what)
            self.assertEqual(found[0], 1048576)
            self.assertTrue(text_of(found) == text)

    def test_one_byte_more(self):
        book = wide_book(201)
        before = state(book)
        self.assertEqual([book.lines(0), book.lines(1), book.lines(2)], [[-6], [-6], [-8]])
        self.assertEqual(state(book), before)

    def test_each_of_both_by_its_own_length(self):
        book = wide_book(200)
        book.moved(100 * 2000, 100 * 2000, 10)
        self.assertEqual([book.lines(0), book.lines(1)[0]], [[-6], 1048576])
        book.moved(100 * 2000, 100 * 2000, 1)
        self.assertEqual(book.lines(0)[0], 1048576)
        book.enter(10000 + 2715)
        book.made(2 ** 39, 9)
        self.assertEqual([book.lines(0), book.lines(1)], [[-6], [-6]])
        book.went(2 ** 39)
        self.assertEqual([book.lines(0)[0], book.lines(1)], [1048576, [-6]])


if __name__ == "__main__":
    unittest.main()
