"""Many long sessions, compared with a model that takes the document's words a minute at a time."""

import random
import unittest

from tests.helper import MOST, run
from tests.model import Model

WEIGHTS = {
    "type": 2, "mould": 4, "press": 3, "green": 14, "fit": 10, "bladder": 5, "clean": 4, "load": 16, "auto": 4,
    "minutes": 18, "scrap": 4, "can": 4, "waits": 4, "old": 3, "cured": 5, "ahead": 4, "needs": 4, "span": 4,
    "share": 3, "by": 3, "within": 3, "look": 5, "mouldat": 4, "tyre": 6, "sums": 2, "state": 2,
}
RANGES = {
    "type": ((0, 1, 2, 3, 5, 8, 40, 400), (0, 1, 4, 9, 20, 60, 900)), "mould": (range(4),), "press": (),
    "green": (range(4),),
    "fit": (range(5), range(8)), "bladder": (range(5),), "clean": (range(8),), "load": (range(5), range(60)),
    "auto": (range(2),), "minutes": ((1, 1, 2, 3, 5, 8, 20),), "scrap": (range(60),), "can": (range(5),),
    "waits": (range(4),), "old": (), "cured": (range(60),), "ahead": ((1, 1, 2, 3, 5, 8, 20),), "needs": (range(4),),
    "span": (range(4), range(6)), "share": (), "by": (range(8),), "within": (range(5), range(3)),
    "look": (range(5),), "mouldat": (range(8),), "tyre": (range(60),), "sums": (), "state": (),
}
EDGES = (0, 1, 5, 8, 60, 500, 501, 1000, 1001, 10000, 10001, MOST - 1, MOST)


def good_begin(source):
    return ("begin", source.choice((0, 0, 1, 3)), source.choice((1, 2, 3, 9)), source.choice((1, 2, 3, 9)))


def some_call(source, model):
    if source.random() < 0.01:
        return ("begin", *[source.choice(EDGES) for _ in range(3)])
    name = source.choices(list(WEIGHTS), list(WEIGHTS.values()))[0]
    given = []
    for choices in RANGES[name]:
        given.append(source.choice(EDGES) if source.random() < 0.01 else source.choice(choices))
    if name in ("load", "scrap", "cured", "tyre") and source.random() < 0.9 and model.rules and model.tyres:
        given[-1] = len(model.tyres) - 1 - min(source.randrange(len(model.tyres)), source.randrange(6))
    return (name, *given)


def first_calls(source):
    if source.random() < 0.1:
        return [("can", 0), good_begin(source)]
    calls = [good_begin(source), ("type", source.randint(1, 6), source.randint(0, 30)), ("type", 2, 12)]
    calls += [("mould", source.randrange(2)) for _ in range(3)]
    return calls + [("press",)] * source.randint(1, 3)


def some_calls(source, model):
    """Mostly one call; now and then many tyres of a type at once, and what is asked of such a heap."""
    if source.random() < 0.98:
        return [some_call(source, model)]
    t = source.randrange(3)
    asked = [("needs", t), ("span", t, source.randrange(6)), ("share",)]
    return [("green", t)] * source.randint(3, 14) + asked


def session(seed):
    """A session of 250 calls or some more, and what the model answers; the same for the same seed."""
    source = random.Random(seed)
    model = Model()
    calls = first_calls(source)
    wanted = [model.answer(call) for call in calls]
    while len(calls) < 250:
        for call in some_calls(source, model):
            calls.append(call)
            wanted.append(model.answer(call))
    return calls, wanted


class ModelTest(unittest.TestCase):
    def test_many_sessions(self):
        seen = {}
        first_ones = {}
        for seed in range(400):
            calls, wanted = session(seed)
            got = run(calls)
            for place, call in enumerate(calls):
                self.assertEqual(got[place], wanted[place], f"seed {seed}, call {place}: {call}")
                seen[(call[0], min(wanted[place][0], 0))] = True
                first_ones[(call[0], wanted[place][0])] = True
        refusals = {
            "begin": (-22,), "type": (-22, -28), "mould": (-2, -28), "press": (-28,), "green": (-2,),
            "fit": (-2, -16, -17), "bladder": (-2, -16, -17), "clean": (-2, -16, -17),
            "load": (-2, -16, -6, -14, -13, -17, -33, -75), "auto": (-22,), "minutes": (-22,),
            "scrap": (-2, -16, -17), "can": (-2, -16, -6, -14, -13), "waits": (-2,), "old": (), "cured": (-2, -33),
            "ahead": (-22,), "needs": (-2, -33), "span": (-2, -22, -33), "share": (-33,), "by": (-2,),
            "within": (-2,), "look": (-2,), "mouldat": (-2,), "tyre": (-2,), "sums": (), "state": (),
        }
        for name, numbers in refusals.items():
            for number in (0,) + numbers:
                self.assertIn((name, number), seen)
        for name, first in (("needs", (1, 2, 3, 4, 5)), ("look", (0, 1, 2)), ("cured", (0, 1, 9)), ("old", (0, 1, 5))):
            for number in first:
                self.assertIn((name, number), first_ones)
