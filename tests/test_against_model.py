"""Many lists of calls, drawn with fixed seeds, against the slow model."""

import random
import unittest

from tests.helper import HUGE, PLACE, SIZE, Model, ask

NAMES = ["enter"] * 4 + ["leave"] * 2 + ["unwind", "tick", "tick"] + ["made"] * 8 + ["went"] * 4 + ["moved"] * 5
NAMES += ["now"] * 3 + ["node"] * 4 + ["find", "path"]
NAMES += ["sizes", "ages", "oldest", "top", "top", "mark", "since", "since", "holds", "holds", "share", "share", "pick",
          "picked", "lines"]
ALONE = ("leave", "now", "sizes", "ages", "mark", "picked")


def a_place(draw, low):
    return draw.choice([draw.randrange(40)] * 8 + [low + draw.randrange(40)] * 4 + [PLACE, PLACE + 1])


def a_size(draw):
    return draw.choice([draw.randrange(6)] * 12 + [draw.randrange(60)] * 4 + [SIZE, SIZE + 1])


def a_who(draw):
    return draw.choice([draw.randrange(3)] * 12 + [65535, 65536, HUGE])


def a_count(draw):
    return draw.choice([draw.randrange(5)] * 4 + [1023, 1024, 1025, HUGE])


def given_to(draw, name, low):
    """What is handed to a call of this name."""
    if name in ALONE:
        return ()
    if name == "find":
        return ([a_who(draw) for step in range(draw.randrange(4))],)
    if name == "enter":
        return (a_who(draw),)
    if name == "unwind":
        return (draw.choice([0, 1, 2, 3, 4, 64, 65]),)
    if name == "tick":
        return (draw.choice([0, 1, 2, 3, 9, 70, SIZE, SIZE + 1]),)
    if name == "made":
        return (a_place(draw, low), a_size(draw))
    if name in ("went", "holds"):
        return (a_place(draw, low),)
    if name == "moved":
        return (a_place(draw, low), a_place(draw, low), a_size(draw))
    if name == "oldest":
        return (a_count(draw),)
    if name == "top":
        return (draw.randrange(5), a_count(draw))
    if name == "share":
        return (draw.randrange(4), draw.choice([0, 1, 2, 2500, 3333, 5000, 6667, 9999, 10000, 10001]))
    if name == "pick":
        return (draw.choice([0, 1, 2, 3, 7, 40, 1000, SIZE, SIZE + 1]),)
    if name == "lines":
        return (draw.choice([0, 0, 1, 1, 2]),)
    return (draw.choice([draw.randrange(8)] * 9 + [HUGE]),)


def a_call(draw, low):
    name = draw.choice(NAMES)
    return (name, *given_to(draw, name, low))


class AgainstModel(unittest.TestCase):
    def test_many_lists(self):
        for seed in range(300):
            draw = random.Random(seed)
            low = draw.choice([0, 20, 1000, PLACE - 30])
            calls = [a_call(draw, low) for step in range(draw.randrange(1, 90))]
            if draw.randrange(4) == 0:
                calls.insert(draw.randrange(len(calls)), ("begin",))
            with self.subTest(seed=seed):
                self.assertEqual(ask(*calls), Model().ask(calls))

    def test_one_long_list(self):
        draw = random.Random(2024)
        calls = [a_call(draw, 1000) for step in range(1500)]
        self.assertEqual(ask(*calls), Model().ask(calls))


if __name__ == "__main__":
    unittest.main()
