"""Many lists of calls, drawn with fixed seeds, against the slow model."""

import random
import unittest

from tests.helper import HUGE, PLACE, SIZE, Model, ask

NAMES = ["enter"] * 4 + ["leave"] * 2 + ["unwind", "tick", "tick"] + ["made"] * 8 + ["went"] * 4 + ["moved"] * 5
NAMES += ["now"] * 3 + ["node"] * 4 + ["find", "path"]


def a_place(draw, low):
    return draw.choice([draw.randrange(40)] * 8 + [low + draw.randrange(40)] * 4 + [PLACE, PLACE + 1])


def a_size(draw):
    return draw.choice([draw.randrange(6)] * 12 + [draw.randrange(60)] * 4 + [SIZE, SIZE + 1])


def a_who(draw):
    return draw.choice([draw.randrange(3)] * 12 + [65535, 65536, HUGE])


def a_call(draw, low):
    name = draw.choice(NAMES)
    if name in ("leave", "now"):
        return (name,)
    if name == "enter":
        return (name, a_who(draw))
    if name == "unwind":
        return (name, draw.choice([0, 1, 2, 3, 4, 64, 65]))
    if name == "tick":
        return (name, draw.choice([0, 1, 2, 3, SIZE, SIZE + 1]))
    if name == "made":
        return (name, a_place(draw, low), a_size(draw))
    if name == "went":
        return (name, a_place(draw, low))
    if name == "moved":
        return (name, a_place(draw, low), a_place(draw, low), a_size(draw))
    if name == "find":
        return (name, [a_who(draw) for step in range(draw.randrange(4))])
    return (name, draw.choice([draw.randrange(8)] * 9 + [HUGE]))


class AgainstModel(unittest.TestCase):
    def test_many_lists(self):
        for seed in range(300):
            draw = random.Random(seed)
            low = draw.choice([0, 20, 1000, PLACE - 30])
            calls = [a_call(draw, low) for step in range(draw.randrange(1, 90))]
            if draw.randrange(4) == 0:
                calls.insert(draw.randrange(len(calls)), ("begin",))
            with self.subTest(seed=seed):
                self.assertEqual(ask(*calls), Model().ask(calls))

    def test_one_long_list(self):
        draw = random.Random(2024)
        calls = [a_call(draw, 1000) for step in range(1500)]
        self.assertEqual(ask(*calls), Model().ask(calls))


if __name__ == "__main__":
    unittest.main()
