"""What holds, a to f, over many lists of calls: told by the program's own answers alone."""

import itertools
import random
import unittest

from tests.helper import run
from tests.test_against_model import session

ASKING = (
    "can", "waits", "old", "cured", "ahead", "needs", "span", "share", "by", "within", "look", "mouldat", "tyre",
    "sums", "state",
)
BLADDERS = range(4)


def refused(call, told):
    return told[0] < 0 and call[0] != "can"


def known(calls):
    """What begin and type were told, of those that weren't refused: (change, bladder, mould), [(cure, wait)]."""
    rules = None
    types = []
    for call, told in zip(calls, run(calls)):
        if call[0] == "begin" and told == [0]:
            rules, types = call[1:], []
        if call[0] == "type" and told[0] >= 0:
            types.append(call[1:])
    return rules, types


def report(calls):
    """All that can be asked after the calls, by call."""
    counts = run(calls + [("state",)])[-1]
    asked = [("state",), ("sums",), ("old",)]
    asked += [("waits", t) for t in range(counts[1])]
    asked += [(name, m) for m in range(counts[2]) for name in ("mouldat", "by")]
    asked += [(name, p) for p in range(counts[3]) for name in ("look", "can")]
    asked += [("within", p, n) for p in range(counts[3]) for n in BLADDERS]
    asked += [("tyre", g) for g in range(counts[4])]
    return dict(zip(asked, run(calls + asked)[len(calls):]))


def points(first, many, each):
    """Sessions cut off at some places, all of them begun."""
    for seed in range(first, first + many):
        source = random.Random(seed)
        calls = [("begin", 1, 3, 3)] + session(seed)[0]
        for _ in range(each):
            yield source, calls[:source.randint(1, len(calls))]


def pieces(source, n):
    """n minutes in some pieces."""
    calls = []
    while n > 0:
        calls.append(("minutes", source.randint(1, min(n, 500))))
        n -= calls[-1][1]
    return calls


class WhatHoldsTest(unittest.TestCase):
    def numbers(self, told, name):
        return [call[1] for call in told if call[0] == name]

    def check_places(self, told):
        """a: a mould in one press at most, a tyre in one press at most, of its mould's type."""
        fitted = {}
        loaded = {}
        for p in self.numbers(told, "look"):
            look = told[("look", p)]
            if look[1] > 0:
                self.assertNotIn(look[1] - 1, fitted)
                fitted[look[1] - 1] = p
            self.assertEqual(look[5] > 0, look[0] == 2)
            self.assertEqual(look[4] > 0, look[0] > 0)
            self.assertEqual(told[("can", p)] == [-16], look[0] > 0)
            if look[5] > 0:
                self.assertNotIn(look[5] - 1, loaded)
                loaded[look[5] - 1] = p
                tyre = told[("tyre", look[5] - 1)]
                self.assertEqual(tyre[0], told[("mouldat", look[1] - 1)][0])
                self.assertEqual(tyre[2:], [1, p, look[1] - 1, look[3], 0])
        for m in self.numbers(told, "mouldat"):
            self.assertEqual(told[("mouldat", m)][2], fitted[m] + 1 if m in fitted else 0)
        pressed = [g for g in self.numbers(told, "tyre") if told[("tyre", g)][2] == 1]
        self.assertEqual(sorted(loaded), pressed)

    def check_cures(self, told, rules):
        """b: no bladder cures oftener than it may, no mould unless it's cleaned."""
        cured = {}
        for p in self.numbers(told, "look"):
            look = told[("look", p)]
            self.assertLessEqual(look[2] + (look[0] == 2), rules[1])
            if look[0] == 2:
                self.assertLess(told[("mouldat", look[1] - 1)][1], rules[2])
        for m in self.numbers(told, "mouldat"):
            self.assertLessEqual(told[("mouldat", m)][1], rules[2])
        for g in self.numbers(told, "tyre"):
            tyre = told[("tyre", g)]
            if tyre[6] > 0:
                cured[(tyre[3], tyre[5])] = cured.get((tyre[3], tyre[5]), 0) + 1
        for (p, bladder), many in cured.items():
            self.assertLessEqual(many, rules[1])
            if told[("look", p)][3] == bladder:
                self.assertEqual(many, told[("look", p)][2])

    def check_lists(self, told):
        """c: by and within name just the cured ones, where tyre says they were cured; all lists agree with tyre."""
        tyres = {g: told[("tyre", g)] for g in self.numbers(told, "tyre")}
        for call, answer in told.items():
            if call[0] in ("by", "within", "waits", "old"):
                self.assertEqual(answer[0], len(answer) - 1)
                self.assertEqual(answer[1:], sorted(set(answer[1:])))
            if call[0] == "by":
                self.assertEqual(answer[1:], [g for g, tyre in tyres.items() if tyre[2] == 2 and tyre[4] == call[1]])
            if call[0] == "within":
                wanted = [g for g, tyre in tyres.items() if tyre[2] == 2 and (tyre[3], tyre[5]) == call[1:]]
                self.assertEqual(answer[1:], wanted)
        listed = told[("old",)][1:]
        for t in self.numbers(told, "waits"):
            listed += told[("waits", t)][1:]
        self.assertEqual(sorted(listed), [g for g, tyre in tyres.items() if tyre[2] == 0])
        states = [tyre[2] for tyre in tyres.values()]
        self.assertEqual(told[("sums",)], [0] + [states.count(number) for number in range(4)])
        self.assertEqual(told[("state",)][4], len(tyres))

    def test_a_b_c_at_any_time(self):
        for source, calls in points(1000, 60, 6):
            told = report(calls)
            with self.subTest(calls=len(calls)):
                self.check_places(told)
                self.check_cures(told, known(calls)[0])
                self.check_lists(told)

    def check_records(self, told, where, when):
        for g in self.numbers(told, "tyre"):
            tyre = told[("tyre", g)]
            if g not in where and tyre[2] in (1, 2):
                look = told[("look", tyre[3])]
                where[g] = [tyre[3], look[1] - 1, look[3]]
            if g not in when and tyre[2] == 2:
                when[g] = told[("state",)][0]
            self.assertEqual(tyre[3:], where.get(g, [0, 0, 0]) + [when.get(g, 0)])

    def test_c_it_was_cured_where_it_was_loaded_and_when_it_was_done(self):
        for seed in range(2000, 2012):
            calls = [("begin", 1, 3, 3)]
            where, when = {}, {}
            for call in session(seed)[0][:120]:
                # A minute at a time, so that each tyre is seen as soon as it's loaded and as it's cured.
                calls.append(("minutes", 1) if call[0] == "minutes" else call)
                if call[0] == "begin" and run(calls)[-1] == [0]:
                    where, when = {}, {}
                self.check_records(report(calls), where, when)

    def test_d_in_just_so_many_minutes_it_is_cured(self):
        seen = []
        for source, calls in points(3000, 60, 6):
            minute, tyres = run(calls + [("state",)])[-1][0::4]
            if tyres == 0:
                continue
            g = source.randrange(tyres)
            told = run(calls + [("cured", g)])[-1][0]
            seen.append(told)
            many = 1000 if told == -33 else told
            # Nothing is cured a minute sooner, and all that's promised is cured then.
            if many > 0:
                self.assertNotEqual(run(calls + pieces(source, many - 1) + [("tyre", g)])[-1][2], 2)
            tyre = run(calls + pieces(source, many) + [("tyre", g)])[-1]
            self.assertEqual(tyre[2] == 2, told >= 0)
            if told > 0:
                self.assertEqual(tyre[6], minute + told)
        self.assertIn(0, seen)
        self.assertIn(-33, seen)
        self.assertGreater(max(seen), 9)

    def test_d_whatever_pieces_minutes_come_in(self):
        for source, calls in points(4000, 60, 3):
            n = source.choice((1, 2, 3, 7, 20, 100, 500))
            in_pieces = pieces(source, n)
            told = run(calls + [("ahead", n), ("minutes", n)])[-2:]
            self.assertEqual(told[0][0], told[1][1])
            many = [piece[1] for piece in run(calls + in_pieces)[len(calls):]]
            self.assertEqual(sum(many), told[1][1])
            after = report(calls + [("minutes", n)])
            self.assertEqual(report(calls + in_pieces), after)
            idle = [after[("look", p)][0] for p in self.numbers(after, "look")].count(0)
            self.assertEqual(told[0][1:], [after[("old",)][0], idle])

    def begins_in_time(self, told, t, kind, k):
        minute = told[("state",)][0]
        late = [
            g for place, g in enumerate(told[("waits", t)][1:])
            if minute + place // k * kind[0] > told[("tyre", g)][1] + kind[1]
        ]
        return late == []

    def test_e_by_so_many_presses_all_are_begun_in_time_by_fewer_they_are_not(self):
        seen = {}
        for source, calls in points(5000, 60, 6):
            told = report(calls)
            for t, kind in enumerate(known(calls)[1]):
                needed = run(calls + [("needs", t)])[-1][0]
                seen[needed] = True
                for k in range(1, 6):
                    self.assertEqual(self.begins_in_time(told, t, kind, k), needed != -33 and k >= needed)
        self.assertEqual(sorted(seen), [-33, 1, 2, 3, 4, 5])

    def test_e_by_no_way_to_share_presses_is_all_cured_sooner(self):
        seen = {}
        for source, calls in points(5000, 60, 6):
            told = report(calls)
            types = range(told[("state",)][1])
            presses = told[("state",)][3]
            moulds = [told[("mouldat", m)][0] for m in self.numbers(told, "mouldat")]
            takes = [[answer[0] for answer in run(calls + [("span", t, k) for k in range(6)])[-6:]] for t in types]
            ways = []
            for way in itertools.product(*[range(min(moulds.count(t), presses) + 1) for t in types]):
                spans = [takes[t][way[t]] for t in types]
                if sum(way) <= presses and -33 not in spans:
                    ways.append([max(spans, default=0), *way])
            shared = run(calls + [("share",)])[-1]
            seen[min(shared[0], 1)] = True
            self.assertEqual(shared, min(ways, default=[-33]))
        self.assertEqual(sorted(seen), [-33, 0, 1])

    def test_e_more_presses_never_take_longer(self):
        for source, calls in points(5000, 60, 3):
            for t, kind in enumerate(known(calls)[1]):
                takes = [answer[0] for answer in run(calls + [("span", t, k) for k in range(1, 6)])[-5:]]
                self.assertEqual(takes, sorted(takes, reverse=True))
                many = run(calls + [("waits", t)])[-1][0]
                self.assertEqual(takes[0], many * kind[0])

    def test_f_without_what_is_refused_or_only_asked_all_is_the_same(self):
        for seed in range(6000, 6060):
            calls = session(seed)[0]
            told = run(calls)
            doing = [place for place, call in enumerate(calls) if not refused(call, told[place])]
            doing = [place for place in doing if calls[place][0] not in ASKING]
            alone = [calls[place] for place in doing]
            self.assertEqual(run(alone), [told[place] for place in doing])
            self.assertEqual(report(alone), report(calls))

    def test_f_just_before_and_just_after(self):
        seen = {}
        for seed in range(7000, 7020):
            calls = session(seed)[0]
            told = run(calls)
            begun = told.index([0]) + 1
            for place in range(begun, len(calls)):
                if calls[place][0] in ASKING or refused(calls[place], told[place]):
                    seen[calls[place][0]] = True
                    if place % 7 == 0:
                        self.assertEqual(report(calls[:place + 1]), report(calls[:place]), calls[place])
        for name in ASKING + ("begin", "type", "mould", "fit", "bladder", "clean", "load", "auto", "minutes", "scrap"):
            self.assertIn(name, seen)
