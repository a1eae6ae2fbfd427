"""Nothing is changed by a refusal."""

import unittest

from tests.helper import HUGE, PLACE, SIZE, ask

SETUP = [("enter", 1), ("made", 0, 8), ("tick", 3), ("enter", 2), ("made", 8, 8), ("made", 32, 0),
         ("tick", 2), ("went", 8), ("enter", 3)]

REFUSED = [
    (("enter", 65536), -8), (("enter", HUGE), -8),
    (("unwind", 65), -8), (("unwind", 4), -5), (("unwind", 64), -5),
    (("tick", SIZE + 1), -8), (("tick", HUGE), -8),
    (("made", PLACE + 1, 1), -8), (("made", 100, SIZE + 1), -8), (("made", 0, SIZE + 1), -8),
    (("made", 0, 8), -3), (("made", 30, 3), -3), (("made", 7, 0), -3),
    (("went", PLACE + 1), -8), (("went", 1), -4), (("went", 8), -4),
    (("moved", PLACE + 1, 100, 1), -8), (("moved", 0, PLACE + 1, 1), -8), (("moved", 0, 100, SIZE + 1), -8),
    (("moved", 1, 100, 1), -4), (("moved", 8, 0, 8), -4), (("moved", 0, 32, 0), -3), (("moved", 0, 30, 9), -3),
    (("moved", 32, 7, 0), -3), (("moved", 32, 0, 4), -3),
    (("node", 4), -4), (("node", HUGE), -4),
    (("find", [2]), -4), (("find", [1, 2, 3, 4]), -4), (("find", [65536]), -8), (("find", [5, 65536]), -8),
    (("path", 4), -4), (("path", HUGE), -4)]

PROBES = [("now",), *[("node", k) for k in range(5)], *[("path", k) for k in range(5)], ("find", [1, 2]),
          ("enter", 9), ("path", 4), ("made", 200, 4), ("moved", 0, 1, 20), ("tick", 1), ("now",),
          ("went", 0), ("went", 1), ("went", 8), ("went", 32), ("went", 100), ("went", 200),
          *[("node", k) for k in range(5)], ("leave",), ("leave",), ("leave",), ("leave",), ("leave",), ("now",)]


class Refusals(unittest.TestCase):
    def test_each_tells_its_number_and_changes_nothing(self):
        expected = ask(*SETUP, *PROBES)[len(SETUP):]
        for call, refusal in REFUSED:
            with self.subTest(call=call):
                found = ask(*SETUP, call, *PROBES)[len(SETUP):]
                self.assertEqual(found[0], [refusal])
                self.assertEqual(found[1:], expected)

    def test_leave_of_the_empty_way_changes_nothing(self):
        setup = [*SETUP, ("unwind", 0)]
        found = ask(*setup, ("leave",), *PROBES)[len(setup):]
        self.assertEqual(found, [[-5]] + ask(*setup, *PROBES)[len(setup):])

    def test_too_long_a_way_changes_nothing(self):
        setup = [*SETUP, *[("enter", 9)] * 61]
        probes = [("node", 64), ("path", 64), ("node", 65), ("path", 65), ("made", 50, 1), ("node", 64), *PROBES]
        found = ask(*setup, ("enter", 9), *probes)[len(setup):]
        self.assertEqual(found, [[-6]] + ask(*setup, *probes)[len(setup):])


if __name__ == "__main__":
    unittest.main()
