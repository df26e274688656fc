"""Many long sessions, compared with a model that takes the document's words a minute at a time."""

import random
import unittest

from tests.helper import MOST, run
from tests.model import Model

WEIGHTS = {
    "type": 2, "mould": 4, "press": 3, "green": 14, "fit": 10, "bladder": 5, "clean": 4, "load": 16, "auto": 4,
    "minutes": 18, "scrap": 4, "can": 8, "waits": 8,
}
RANGES = {
    "type": ((0, 1, 2, 3, 5, 8), (0, 1, 4, 9, 20, 60)), "mould": (range(4),), "press": (), "green": (range(4),),
    "fit": (range(5), range(8)), "bladder": (range(5),), "clean": (range(8),), "load": (range(5), range(60)),
    "auto": (range(2),), "minutes": ((1, 1, 2, 3, 5, 8, 20),), "scrap": (range(60),), "can": (range(5),),
    "waits": (range(4),),
}
EDGES = (0, 1, 5, 8, 60, 500, 501, 1000, 1001, 10000, 10001, MOST - 1, MOST)


def good_begin(source):
    return ("begin", source.choice((0, 0, 1, 3)), source.choice((1, 2, 3, 9)), source.choice((1, 2, 3, 9)))


def some_call(source, model):
    if source.random() < 0.01:
        return ("begin", *[source.choice(EDGES) for _ in range(3)])
    name = source.choices(list(WEIGHTS), list(WEIGHTS.values()))[0]
    given = []
    for choices in RANGES[name]:
        given.append(source.choice(EDGES) if source.random() < 0.01 else source.choice(choices))
    if name in ("load", "scrap") and source.random() < 0.9 and model.rules and model.tyres:
        given[-1] = len(model.tyres) - 1 - min(source.randrange(len(model.tyres)), source.randrange(6))
    return (name, *given)


def first_calls(source):
    if source.random() < 0.1:
        return [("can", 0), good_begin(source)]
    calls = [good_begin(source), ("type", source.randint(1, 6), source.randint(0, 30)), ("type", 2, 12)]
    calls += [("mould", source.randrange(2)) for _ in range(3)]
    return calls + [("press",)] * source.randint(1, 3)


def session(seed):
    """A session of 200 calls, and what the model answers; the same for the same seed."""
    source = random.Random(seed)
    model = Model()
    calls = first_calls(source)
    wanted = [model.answer(call) for call in calls]
    while len(calls) < 200:
        calls.append(some_call(source, model))
        wanted.append(model.answer(calls[-1]))
    return calls, wanted


class ModelTest(unittest.TestCase):
    def test_many_sessions(self):
        seen = {}
        for seed in range(400):
            calls, wanted = session(seed)
            got = run(calls)
            for place, call in enumerate(calls):
                self.assertEqual(got[place], wanted[place], f"seed {seed}, call {place}: {call}")
                seen[(call[0], min(wanted[place][0], 0))] = True
        refusals = {
            "begin": (-22,), "type": (-22, -28), "mould": (-2, -28), "press": (-28,), "green": (-2,),
            "fit": (-2, -16, -17), "bladder": (-2, -16, -17), "clean": (-2, -16, -17),
            "load": (-2, -16, -6, -14, -13, -17, -33, -75), "auto": (-22,), "minutes": (-22,),
            "scrap": (-2, -16, -17), "can": (-2, -16, -6, -14, -13), "waits": (-2,),
        }
        for name, numbers in refusals.items():
            for number in (0,) + numbers:
                self.assertIn((name, number), seen)
