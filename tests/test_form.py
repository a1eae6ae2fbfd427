"""The interface: how a list of calls is read, and the form of what is given back."""

import unittest

from piecebook.book import answers
from tests.helper import HUGE, ask, flat

MANY = [("enter", 7), ("made", 16, 8), ("tick", 5), ("enter", 9), ("made", 0, 3), ("moved", 0, 32, 4),
        ("now",), ("node", 1), ("find", [7, 9]), ("path", 2), ("went", 16), ("unwind", 0), ("leave",),
        ("made", HUGE, 0), ("find", []), ("pick", 2), ("made", 100, 9), ("mark",), ("made", 200, 30), ("went", 100),
        ("sizes",), ("ages",), ("oldest", 5), ("top", 0, 5), ("top", 3, 5), ("mark",), ("since", 0), ("holds", 205),
        ("share", 0, 5000), ("share", 1, 5000), ("share", 2, 5000), ("pick", 3), ("picked",), ("lines", 0),
        ("lines", 1), ("since", 9), ("lines", 2), ("begin",), ("now",), ("sizes",), ("picked",), ("since", 0)]


class Form(unittest.TestCase):
    def test_empty_list(self):
        self.assertEqual(answers([]), [])

    def test_each_answer_has_its_length_ahead(self):
        self.assertEqual(answers([0]), [1, 0])
        self.assertEqual(answers([8]), [9, 0, 0, 0, 0, 0, 0, 0, 0, 0])
        self.assertEqual(answers([9, 0]), [10, 0, 0, 0, 0, 0, 0, 0, 0, 0, 0])

    def test_every_call_by_its_number(self):
        given = [0, 1, 7, 1, 9, 5, 100, 10, 4, 3, 7, 100, 200, 4, 8, 9, 2, 10, 2, 7, 9, 11, 2, 6, 200, 2, 3, 0]
        self.assertEqual(answers(given), [
            1, 0,
            1, 1,
            1, 2,
            1, 0,
            1, 0,
            1, 0,
            9, 0, 3, 1, 4, 10, 0, 1, 10, 0,
            10, 1, 9, 1, 10, 1, 4, 10, 1, 4, 10,
            1, 2,
            3, 2, 7, 9,
            1, 3,
            1, 1,
            1, 0])

    def test_every_further_call_by_its_number(self):
        given = [20, 4, 1, 7, 5, 100, 10, 16, 4, 3, 5, 200, 3, 6, 100,
                 12, 13, 14, 9, 15, 0, 9, 16, 17, 0, 18, 202, 19, 1, 10000, 21, 20, 0, 22, 1]
        sizes = [0] * 248
        sizes[2 * 9] = 1
        sizes[2 * 3] = sizes[2 * 3 + 1] = 1
        ages = [0] * 128
        ages[2 * 2] = 1
        ages[2 * 2 + 1] = 10
        self.assertEqual(answers(given), [
            1, 0, 1, 1, 1, 0, 1, 0, 1, 0, 1, 1, 1, 3,
            249, 0, *sizes,
            129, 0, *ages,
            5, 1, 200, 3, 1, 0,
            3, 1, 1, 3,
            1, 1,
            4, 1, 1, 0, -7,
            4, 1, 200, 3, 1,
            2, 0, 3,
            4, 1, 1, 3, 12,
            1, 3,
            6, 5, 55, 32, 49, 51, 10])

    def test_a_refusal_is_one_number_alone(self):
        given = [("enter", 65536), ("leave",), ("unwind", 1), ("tick", HUGE), ("made", HUGE, 0), ("went", 0),
                 ("moved", 0, 0, 0), ("node", 1), ("find", [1]), ("path", 1)]
        self.assertEqual(answers(flat(given)),
                         [1, -8, 1, -5, 1, -5, 1, -8, 1, -8, 1, -4, 1, -4, 1, -4, 1, -4, 1, -4])
        given = [("oldest", 1025), ("top", 4, 0), ("top", 0, 1025), *[("mark",)] * 65, ("since", 64), ("holds", HUGE),
                 ("holds", 0), ("share", 3, 1), ("share", 0, 1), ("pick", HUGE), ("lines", 2)]
        marks = [number for k in range(64) for number in (1, k)]
        self.assertEqual(answers(flat(given)),
                         [1, -8, 1, -8, 1, -8, *marks, 1, -6, 1, -4, 1, -8, 1, -4, 1, -8, 1, -4, 1, -8, 1, -8])

    def test_rows_of_find_are_read_by_their_length(self):
        self.assertEqual(answers([10, 0, 1, 3, 10, 1, 3, 10, 2, 3, 8, 2]), [1, 0, 1, 1, 1, 1, 1, -4, 1, 0])

    def test_path_counts_whos(self):
        self.assertEqual(answers([11, 0, 1, 5, 11, 1]), [1, 0, 1, 1, 2, 1, 5])

    def test_a_new_book_is_as_begin_leaves_it(self):
        probes = [("now",), ("node", 0), ("node", 1), ("leave",), ("enter", 4), ("made", 9, 9), ("sizes",), ("ages",),
                  ("oldest", 9), ("top", 1, 9), ("since", 0), ("mark",), ("holds", 9), ("share", 0, 1), ("picked",),
                  ("pick", 0), ("lines", 1)]
        self.assertEqual(ask(*probes), ask(("begin",), *probes)[1:])

    def test_what_is_handed_in_stays_as_it_was(self):
        given = flat(MANY)
        kept = list(given)
        answers(given)
        self.assertEqual(given, kept)

    def test_what_is_given_back_is_another_list_of_plain_numbers(self):
        given = flat(MANY)
        found = answers(given)
        self.assertIs(type(found), list)
        self.assertEqual({type(number) for number in found}, {int})
        found.append(1)
        self.assertEqual(answers(given), found[:-1])

    def test_a_second_time_answers_as_the_first(self):
        first = answers(flat(MANY))
        answers(flat([("pick", 1), ("enter", 1), ("made", 0, 100), ("mark",), ("tick", 9), ("went", 0)]))
        self.assertEqual(answers(flat(MANY)), first)

    def test_five_thousand_calls(self):
        found = ask(*[("tick", 1)] * 4999, ("now",))
        self.assertEqual(found[:-1], [[0]] * 4999)
        self.assertEqual(found[-1][:2], [0, 4999])

    def test_sixteen_thousand_numbers(self):
        calls = [("find", [3] * 62)] * 250
        self.assertEqual(len(flat(calls)), 16000)
        self.assertEqual(ask(*calls), [[-4]] * 250)

    def test_an_unknown_number_is_not_taken_for_a_call(self):
        for number in (23, 1000, HUGE):
            with self.assertRaises(ValueError):
                answers([number])


if __name__ == "__main__":
    unittest.main()
