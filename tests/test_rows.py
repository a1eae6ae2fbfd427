"""Point 10: sizes and ages."""

import unittest

from piecebook.book import Book
from piecebook.rows import age_class, size_class
from tests.helper import SIZE, ask, class_of_age, class_of_size, last, rows_of

SIZE_CLASSES = {0: 0, 1: 1, 7: 7, 8: 8, 9: 8, 10: 9, 11: 9, 12: 10, 13: 10, 14: 11, 15: 11, 16: 12, 19: 12, 20: 13,
                31: 15, 32: 16, 2 ** 31 - 1: 119, 2 ** 31: 120, SIZE: 123}

AGE_CLASSES = {0: 0, 1: 1, 2: 2, 3: 2, 4: 3, 7: 3, 8: 4, 2 ** 32 - 1: 32, 2 ** 32: 33, 2 ** 62 - 1: 62, 2 ** 62: 63,
               2 ** 63 - 1: 63}


def seen(answer, classes):
    """The rows that are not all 0, by their classes, of which there must be so many."""
    rows = rows_of(answer, 2)
    if answer[0] != 0 or len(rows) != classes:
        raise AssertionError(f"{answer[0]}, {len(rows)} rows")
    return {row: found for row, found in enumerate(rows) if found != [0, 0]}


def sizes_seen(answer):
    return seen(answer, 124)


def ages_seen(answer):
    return seen(answer, 64)


class Sizes(unittest.TestCase):
    def test_an_empty_book(self):
        self.assertEqual(last(("sizes",)), [0] * 249)

    def test_each_class_by_its_sizes(self):
        for size, row in SIZE_CLASSES.items():
            with self.subTest(size=size):
                self.assertEqual(sizes_seen(last(("made", 0, size), ("sizes",))), {row: [1, 1]})

    def test_the_classes_about_every_quarter_of_a_power(self):
        for e in range(3, 32):
            for quarter in range(4):
                first = 2 ** e + quarter * 2 ** (e - 2)
                self.assertEqual(size_class(first), 4 * e - 4 + quarter)
                self.assertEqual(size_class(first - 1), 4 * e - 5 + quarter)

    def test_the_classes_of_all_small_sizes(self):
        for size in range(5000):
            self.assertEqual(size_class(size), class_of_size(size))

    def test_pieces_in_one_class(self):
        self.assertEqual(sizes_seen(last(("made", 0, 8), ("made", 8, 9), ("made", 20, 10), ("sizes",))),
                         {8: [2, 2], 9: [1, 1]})

    def test_pieces_made_against_pieces_that_live(self):
        calls = [("made", 0, 3), ("made", 3, 3), ("made", 8, 8), ("went", 3)]
        self.assertEqual(sizes_seen(last(*calls, ("sizes",))), {3: [2, 1], 8: [1, 1]})
        self.assertEqual(sizes_seen(last(*calls, ("went", 0), ("went", 8), ("sizes",))), {3: [2, 0], 8: [1, 0]})

    def test_moved_changes_the_class_of_now_alone(self):
        calls = [("made", 0, 3), ("moved", 0, 4, 16)]
        self.assertEqual(sizes_seen(last(*calls, ("sizes",))), {3: [1, 0], 12: [0, 1]})
        self.assertEqual(sizes_seen(last(*calls, ("moved", 4, 4, 0), ("sizes",))), {0: [0, 1], 3: [1, 0]})
        self.assertEqual(sizes_seen(last(*calls, ("went", 4), ("sizes",))), {3: [1, 0]})

    def test_refused_pieces_are_not_counted(self):
        self.assertEqual(sizes_seen(last(("made", 0, 3), ("made", 2, 3), ("made", 9, SIZE + 1), ("moved", 0, 9, SIZE + 1),
                                         ("made", 3, 1), ("moved", 0, 3, 9), ("went", 9), ("sizes",))),
                         {1: [1, 1], 3: [1, 1]})


class Ages(unittest.TestCase):
    def test_an_empty_book(self):
        self.assertEqual(last(("ages",)), [0] * 129)

    def test_pieces_that_live_have_not_gone(self):
        self.assertEqual(ages_seen(last(("made", 0, 3), ("tick", 5), ("ages",))), {})

    def test_each_class_by_its_ages(self):
        for age, row in AGE_CLASSES.items():
            with self.subTest(age=age):
                book = Book()
                book.made(0, 5)
                book.time = age
                self.assertEqual(book.went(0), [age])
                self.assertEqual(ages_seen(book.ages()), {row: [1, 5]})

    def test_classes_within_a_list_of_calls(self):
        calls = [("made", 10 * age, 5 + age) for age in range(5)]
        for age in range(5):
            calls += [("went", 10 * age), ("tick", 1)]
        self.assertEqual(ages_seen(last(*calls, ("ages",))), {0: [1, 5], 1: [1, 6], 2: [2, 15], 3: [1, 9]})

    def test_an_age_counts_from_when_the_piece_was_made(self):
        self.assertEqual(ages_seen(last(("tick", 100), ("made", 0, 3), ("tick", 1), ("went", 0), ("ages",))),
                         {1: [1, 3]})

    def test_the_classes_of_many_ages(self):
        for age in [*range(3000), *[2 ** e + more for e in range(12, 63) for more in (-1, 0, 1)]]:
            self.assertEqual(age_class(age), class_of_age(age))

    def test_bytes_when_it_went(self):
        self.assertEqual(ages_seen(last(("made", 0, 3), ("tick", 2), ("moved", 0, 9, 20), ("tick", 2), ("went", 9),
                                        ("ages",))), {3: [1, 20]})

    def test_a_piece_of_no_size(self):
        self.assertEqual(ages_seen(last(("made", 0, 0), ("went", 0), ("made", 0, 7), ("moved", 0, 0, 0), ("went", 0),
                                        ("ages",))), {0: [2, 0]})

    def test_great_sums_are_exact(self):
        calls = [call for step in range(1000) for call in (("made", 0, SIZE), ("went", 0))]
        self.assertEqual(ages_seen(last(*calls, ("ages",))), {0: [1000, 1000 * SIZE]})

    def test_a_refused_went_is_not_counted(self):
        self.assertEqual(ages_seen(last(("made", 0, 3), ("went", 1), ("went", 2 ** 40), ("ages",))), {})


class BeginEmptiesTheRows(unittest.TestCase):
    def test_both(self):
        found = ask(("made", 0, 3), ("made", 8, 8), ("tick", 3), ("went", 0), ("begin",), ("sizes",), ("ages",))
        self.assertEqual(found[5:], [[0] * 249, [0] * 129])


if __name__ == "__main__":
    unittest.main()
