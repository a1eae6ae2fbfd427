"""Nothing is changed by a refusal."""

import unittest

from tests.helper import HUGE, PLACE, SIZE, ask

SETUP = [("pick", 3), ("enter", 1), ("made", 0, 8), ("mark",), ("tick", 3), ("enter", 2), ("made", 8, 8),
         ("made", 32, 0), ("mark",), ("tick", 2), ("went", 8), ("enter", 3)]

REFUSED = [
    (("enter", 65536), -8), (("enter", HUGE), -8),
    (("unwind", 65), -8), (("unwind", 4), -5), (("unwind", 64), -5),
    (("tick", SIZE + 1), -8), (("tick", HUGE), -8),
    (("made", PLACE + 1, 1), -8), (("made", 100, SIZE + 1), -8), (("made", 0, SIZE + 1), -8),
    (("made", 0, 8), -3), (("made", 30, 3), -3), (("made", 7, 0), -3),
    (("went", PLACE + 1), -8), (("went", 1), -4), (("went", 8), -4),
    (("moved", PLACE + 1, 100, 1), -8), (("moved", 0, PLACE + 1, 1), -8), (("moved", 0, 100, SIZE + 1), -8),
    (("moved", 1, 100, 1), -4), (("moved", 8, 0, 8), -4), (("moved", 0, 32, 0), -3), (("moved", 0, 30, 9), -3),
    (("moved", 32, 7, 0), -3), (("moved", 32, 0, 4), -3),
    (("node", 4), -4), (("node", HUGE), -4),
    (("find", [2]), -4), (("find", [1, 2, 3, 4]), -4), (("find", [65536]), -8), (("find", [5, 65536]), -8),
    (("path", 4), -4), (("path", HUGE), -4),
    (("oldest", 1025), -8), (("oldest", HUGE), -8),
    (("top", 4, 1), -8), (("top", 0, 1025), -8), (("top", 4, 1025), -8), (("top", HUGE, 0), -8), (("top", 3, HUGE), -8),
    (("since", 2), -4), (("since", 64), -4), (("since", HUGE), -4),
    (("holds", PLACE + 1), -8), (("holds", HUGE), -8), (("holds", 8), -4), (("holds", 32), -4), (("holds", PLACE), -4),
    (("share", 3, 1), -8), (("share", 0, 0), -8), (("share", 1, 10001), -8), (("share", 3, 0), -8),
    (("share", HUGE, HUGE), -8),
    (("pick", SIZE + 1), -8), (("pick", HUGE), -8),
    (("lines", 2), -8), (("lines", HUGE), -8)]

# what each new call answers, and that a mark has the next number and the picks go on where they were
VIEWS = [("sizes",), ("ages",), ("oldest", 1024), *[("top", by, 1024) for by in range(4)], ("since", 0), ("since", 1),
         ("since", 2), *[("holds", at) for at in range(210)], *[("share", what, 5000) for what in range(3)],
         ("picked",), ("lines", 0), ("lines", 1), ("mark",)]

PROBES = [*VIEWS, ("made", 300, 1), ("picked",), ("made", 301, 1), ("picked",), ("made", 302, 1), ("picked",),
          ("pick", 2), ("now",), *[("node", k) for k in range(5)], *[("path", k) for k in range(5)], ("find", [1, 2]),
          ("enter", 9), ("path", 4), ("made", 200, 4), ("moved", 0, 1, 20), ("tick", 1), ("now",),
          ("went", 0), ("went", 1), ("went", 8), ("went", 32), ("went", 100), ("went", 200),
          *[("node", k) for k in range(5)], ("leave",), ("leave",), ("leave",), ("leave",), ("leave",), ("now",),
          *VIEWS]


class Refusals(unittest.TestCase):
    def test_each_tells_its_number_and_changes_nothing(self):
        expected = ask(*SETUP, *PROBES)[len(SETUP):]
        for call, refusal in REFUSED:
            with self.subTest(call=call):
                found = ask(*SETUP, call, *PROBES)[len(SETUP):]
                self.assertEqual(found[0], [refusal])
                self.assertEqual(found[1:], expected)

    def test_leave_of_the_empty_way_changes_nothing(self):
        setup = [*SETUP, ("unwind", 0)]
        found = ask(*setup, ("leave",), *PROBES)[len(setup):]
        self.assertEqual(found, [[-5]] + ask(*setup, *PROBES)[len(setup):])

    def test_too_long_a_way_changes_nothing(self):
        setup = [*SETUP, *[("enter", 9)] * 61]
        probes = [("node", 64), ("path", 64), ("node", 65), ("path", 65), ("made", 50, 1), ("node", 64), *PROBES]
        found = ask(*setup, ("enter", 9), *probes)[len(setup):]
        self.assertEqual(found, [[-6]] + ask(*setup, *probes)[len(setup):])

    def test_one_mark_too_many_changes_nothing(self):
        setup = [*SETUP, *[("mark",)] * 62]
        found = ask(*setup, ("mark",), *PROBES)[len(setup):]
        self.assertEqual(found, [[-6]] + ask(*setup, *PROBES)[len(setup):])

    def test_a_share_of_nothing_changes_nothing(self):
        setup = [*SETUP, ("moved", 0, 0, 0)]
        found = ask(*setup, ("share", 1, 1), *PROBES)[len(setup):]
        self.assertEqual(found, [[-4]] + ask(*setup, *PROBES)[len(setup):])


class Questions(unittest.TestCase):
    def test_the_calls_that_only_ask_change_nothing(self):
        for call in [*VIEWS[:-1], ("now",), ("node", 1), ("find", [1]), ("path", 2)]:
            with self.subTest(call=call):
                found = ask(*SETUP, call, *PROBES)[len(SETUP) + 1:]
                self.assertEqual(found, ask(*SETUP, *PROBES)[len(SETUP):])

    def test_a_mark_disturbs_nothing_else(self):
        probes = [probe for probe in PROBES if probe not in (("mark",), ("since", 2))]
        found = ask(*SETUP, ("mark",), *probes)[len(SETUP) + 1:]
        self.assertEqual(found, ask(*SETUP, *probes)[len(SETUP):])


if __name__ == "__main__":
    unittest.main()
