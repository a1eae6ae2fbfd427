"""Points 2 and 9: enter, leave, unwind, find and path."""

import unittest

from piecebook.book import Book
from tests.helper import HUGE, ask, last


def chain(count):
    """Enter whos 0, 1, 2 .. one behind another."""
    return [("enter", who) for who in range(count)]


def full_tree():
    """Go so many ways that there are 4096 nodes, and stand on the empty way."""
    calls = []
    for first in range(63):
        calls += [("enter", first)] + chain(63) + [("unwind", 0)]
    return calls + [("enter", 63)] + chain(62) + [("unwind", 0)]


class Enter(unittest.TestCase):
    def test_nodes_are_numbered_as_they_are_first_gone(self):
        self.assertEqual(ask(("enter", 5), ("enter", 5), ("leave",), ("enter", 6), ("unwind", 0), ("enter", 6)),
                         [[1], [2], [1], [3], [0], [4]])

    def test_a_way_gone_again_has_its_old_node(self):
        self.assertEqual(ask(("enter", 5), ("enter", 6), ("unwind", 0), ("enter", 5), ("enter", 6), ("enter", 5)),
                         [[1], [2], [0], [1], [2], [3]])

    def test_the_same_who_behind_another_way_is_another_node(self):
        self.assertEqual(ask(("enter", 1), ("enter", 2), ("unwind", 0), ("enter", 2)), [[1], [2], [0], [3]])

    def test_the_greatest_who_and_one_beyond(self):
        self.assertEqual(ask(("enter", 65535), ("enter", 65536), ("enter", HUGE), ("enter", 0)),
                         [[1], [-8], [-8], [2]])

    def test_sixty_four_whos_and_one_beyond(self):
        found = ask(*chain(64), ("enter", 64), ("enter", 63), ("path", 64), ("path", 65), ("leave",), ("enter", 63))
        self.assertEqual(found[:64], [[k + 1] for k in range(64)])
        self.assertEqual(found[64:], [[-6], [-6], [64, *range(64)], [-4], [63], [64]])

    def test_too_great_a_who_comes_before_too_long_a_way(self):
        self.assertEqual(last(*chain(64), ("enter", 65536)), [-8])

    def test_four_thousand_and_ninety_six_nodes(self):
        calls = full_tree()
        found = ask(*calls, ("path", 4095), ("path", 4096), ("node", 4096), ("enter", 64), ("node", 4096),
                    ("leave",), ("enter", 65536), ("enter", 63), ("unwind", 0), ("enter", 0), ("enter", 1))
        self.assertEqual(found[len(calls) - 2:], [
            [4095], [0], [63, 63, *range(62)], [-4], [-4], [-6], [-4],
            [-5], [-8], [64 * 63 + 1], [0], [1], [-6]])

    def test_one_node_less_leaves_room_for_one(self):
        calls = full_tree()[:-2]
        self.assertEqual(ask(*calls, ("unwind", 1), ("enter", 9), ("unwind", 1), ("enter", 10))[len(calls):],
                         [[64 * 63 + 1], [4095], [64 * 63 + 1], [-6]])


class LeaveAndUnwind(unittest.TestCase):
    def test_leave_goes_to_the_node_above(self):
        self.assertEqual(ask(("enter", 3), ("enter", 4), ("leave",), ("leave",), ("leave",)),
                         [[1], [2], [1], [0], [-5]])

    def test_leave_of_the_empty_way(self):
        self.assertEqual(ask(("leave",), ("enter", 3)), [[-5], [1]])

    def test_unwind_keeps_the_first_whos(self):
        found = ask(*chain(6), ("unwind", 6), ("unwind", 4), ("unwind", 1), ("unwind", 0), ("unwind", 0))
        self.assertEqual(found[6:], [[6], [4], [1], [0], [0]])

    def test_unwind_of_a_way_not_so_long(self):
        self.assertEqual(ask(("enter", 3), ("unwind", 2), ("unwind", 64), ("leave",), ("unwind", 1)),
                         [[1], [-5], [-5], [0], [-5]])

    def test_unwind_to_sixty_four_and_one_beyond(self):
        self.assertEqual(ask(*chain(64), ("unwind", 64), ("unwind", 65), ("unwind", HUGE), ("unwind", 63))[64:],
                         [[64], [-8], [-8], [63]])

    def test_too_great_a_depth_comes_before_too_short_a_way(self):
        self.assertEqual(ask(("unwind", 65), ("unwind", 64)), [[-8], [-5]])


class FindAndPath(unittest.TestCase):
    tree = [("enter", 8), ("enter", 9), ("unwind", 0), ("enter", 9), ("enter", 8), ("enter", 8)]

    def test_find(self):
        ways = [[], [8], [8, 9], [9], [9, 8], [9, 8, 8]]
        self.assertEqual(ask(*self.tree, *[("find", way) for way in ways])[6:], [[k] for k in range(6)])

    def test_find_of_a_way_that_has_no_node(self):
        ways = [[7], [8, 8], [8, 9, 8], [9, 9], [9, 8, 8, 8], [0] * 64]
        self.assertEqual(ask(*self.tree, *[("find", way) for way in ways])[6:], [[-4]] * 6)

    def test_find_goes_from_the_empty_way_and_leaves_the_way_as_it_stands(self):
        self.assertEqual(ask(*self.tree, ("find", [8]), ("leave",))[6:], [[1], [4]])

    def test_find_makes_no_node(self):
        self.assertEqual(ask(("find", [1]), ("find", [1]), ("node", 1), ("enter", 2)), [[-4], [-4], [-4], [1]])

    def test_find_of_sixty_four_whos(self):
        self.assertEqual(last(*chain(64), ("unwind", 0), ("find", list(range(64)))), [64])

    def test_find_of_one_who_beyond_on_the_book_itself(self):
        self.assertEqual([Book().find([0] * 64), Book().find([0] * 65)], [[-4], [-8]])

    def test_find_of_a_who_out_of_range(self):
        self.assertEqual(ask(("enter", 65535), ("find", [65535]), ("find", [65536]), ("find", [65535, HUGE])),
                         [[1], [1], [-8], [-8]])

    def test_a_who_out_of_range_comes_before_a_way_without_node(self):
        self.assertEqual(last(("find", [1, 2, 3, 65536])), [-8])

    def test_path(self):
        self.assertEqual(ask(*self.tree, *[("path", k) for k in range(6)])[6:],
                         [[0], [1, 8], [2, 8, 9], [1, 9], [2, 9, 8], [3, 9, 8, 8]])

    def test_path_of_no_node(self):
        self.assertEqual(ask(*self.tree, ("path", 6), ("path", 4096), ("path", HUGE))[6:], [[-4]] * 3)


if __name__ == "__main__":
    unittest.main()
