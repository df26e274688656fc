"""Calls by name, and a session that makes them through tyrepresses.curing.answers."""

import unittest

from tyrepresses.curing import answers

NAMES = (
    "begin", "type", "mould", "press", "green", "fit", "bladder", "clean", "load", "auto", "minutes", "scrap",
    "can", "waits", "old", "cured", "ahead", "needs", "span", "share", "by", "within", "look", "mouldat", "tyre",
    "sums", "state",
)
GIVEN = {
    "begin": 3, "type": 2, "mould": 1, "press": 0, "green": 1, "fit": 2, "bladder": 1, "clean": 1, "load": 2,
    "auto": 1, "minutes": 1, "scrap": 1, "can": 1, "waits": 1, "old": 0, "cured": 1, "ahead": 1, "needs": 1,
    "span": 2, "share": 0, "by": 1, "within": 2, "look": 1, "mouldat": 1, "tyre": 1, "sums": 0, "state": 0,
}
MOST = 4294967295


def split(told):
    """The flat answers as one list a call."""
    parts = []
    at = 0
    while at < len(told):
        many = told[at]
        parts.append(told[at + 1:at + 1 + many])
        if len(parts[-1]) != many:
            raise AssertionError("the last answer is cut short")
        at += 1 + many
    return parts


def flatten(calls):
    flat = []
    for call in calls:
        if len(call) != GIVEN[call[0]] + 1:
            raise AssertionError(f"a call with a wrong count: {call}")
        flat.append(NAMES.index(call[0]))
        flat.extend(call[1:])
    return flat


def run(calls):
    """What each of the calls, tuples that begin with a name, answers."""
    return split(answers(flatten(calls)))


class SessionCase(unittest.TestCase):
    """Each test writes a session: calls, and beside each what it must answer."""

    def session(self, *rows):
        calls = [row[0] for row in rows]
        wanted = [[row[1]] if isinstance(row[1], int) else list(row[1]) for row in rows]
        got = run(calls)
        self.assertEqual(len(got), len(calls))
        for place, call in enumerate(calls):
            self.assertEqual(got[place], wanted[place], f"call {place}: {call}")
