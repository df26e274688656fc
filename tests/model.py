"""The document's words taken one by one, a minute at a time, to compare the program with."""

import copy
import itertools

STATES = ("waits", "press", "cured", "scrapped")


class Refused(Exception):
    pass


def refuse(when, number):
    if when:
        raise Refused(number)


class Model:
    def __init__(self):
        self.rules = None

    def answer(self, call):
        name = call[0]
        try:
            refuse(name != "begin" and self.rules is None, -11)
            told = getattr(self, "do_" + name)(*call[1:])
        except Refused as refusal:
            return [refusal.args[0]]
        return told if isinstance(told, list) else [told]

    def check(self, types=(), moulds=(), presses=(), tyres=()):
        refuse(any(t not in range(len(self.types)) for t in types), -2)
        refuse(any(m not in range(len(self.moulds)) for m in moulds), -2)
        refuse(any(p not in range(len(self.presses)) for p in presses), -2)
        refuse(any(g not in range(len(self.tyres)) for g in tyres), -2)

    def why(self, p):
        press = self.presses[p]
        if press["state"] != "idle":
            return -16
        if press["mould"] is None:
            return -6
        if press["made"] >= self.rules[1]:
            return -14
        if self.moulds[press["mould"]]["made"] >= self.rules[2]:
            return -13
        return 0

    def is_old(self, tyre):
        return self.now - tyre["came"] > self.types[tyre["type"]][1]

    def put(self, p, g):
        press = self.presses[p]
        press.update(state="cures", left=self.types[self.tyres[g]["type"]][0], tyre=g)
        self.tyres[g].update(state="press", where=(p, press["mould"], press["nth"]))

    def change(self, press):
        if self.rules[0] > 0:
            press.update(state="changed", left=self.rules[0])

    def minute(self):
        if self.auto:
            for p, press in enumerate(self.presses):
                if self.why(p) == 0:
                    for g in self.do_waits(self.moulds[press["mould"]]["type"])[1:2]:
                        self.put(p, g)
        for press in self.presses:
            if press["state"] != "idle":
                press["left"] -= 1
                if press["left"] == 0:
                    if press["state"] == "cures":
                        self.tyres[press["tyre"]].update(state="cured", when=self.now + 1)
                        press["made"] += 1
                        self.moulds[press["mould"]]["made"] += 1
                    press["state"] = "idle"
        self.now += 1

    def do_begin(self, c, l, d):
        refuse(not (0 <= c <= 500 and 1 <= l <= 1000 and 1 <= d <= 1000), -22)
        self.rules = (c, l, d)
        self.types, self.moulds, self.presses, self.tyres = [], [], [], []
        self.now, self.auto = 0, 0
        return 0

    def do_type(self, c, g):
        refuse(not (1 <= c <= 500 and 0 <= g <= 10000), -22)
        refuse(len(self.types) >= 5, -28)
        self.types.append((c, g))
        return len(self.types) - 1

    def do_mould(self, t):
        self.check(types=[t])
        refuse(len(self.moulds) >= 8, -28)
        self.moulds.append({"type": t, "made": 0})
        return len(self.moulds) - 1

    def do_press(self):
        refuse(len(self.presses) >= 5, -28)
        self.presses.append({"mould": None, "nth": 0, "made": 0, "state": "idle", "left": 0, "tyre": None})
        return len(self.presses) - 1

    def do_green(self, t):
        self.check(types=[t])
        refuse(len(self.tyres) >= 60, -28)
        self.tyres.append({"type": t, "came": self.now, "state": "waits", "where": (0, 0, 0), "when": 0})
        return len(self.tyres) - 1

    def do_fit(self, p, m):
        self.check(presses=[p], moulds=[m])
        press = self.presses[p]
        refuse(press["state"] != "idle", -16)
        refuse(any(other["mould"] == m for other in self.presses), -17)
        was = press["mould"]
        press["mould"] = m
        self.change(press)
        return 0 if was is None else was + 1

    def do_bladder(self, p):
        self.check(presses=[p])
        press = self.presses[p]
        refuse(press["state"] != "idle", -16)
        refuse(press["made"] == 0, -17)
        made = press["made"]
        press.update(made=0, nth=press["nth"] + 1)
        self.change(press)
        return made

    def do_clean(self, m):
        self.check(moulds=[m])
        refuse(any(press["mould"] == m for press in self.presses), -16)
        made = self.moulds[m]["made"]
        refuse(made == 0, -17)
        self.moulds[m]["made"] = 0
        return made

    def do_load(self, p, g):
        self.check(presses=[p], tyres=[g])
        refuse(self.why(p) != 0, self.why(p))
        tyre = self.tyres[g]
        refuse(tyre["state"] != "waits", -17)
        refuse(tyre["type"] != self.moulds[self.presses[p]["mould"]]["type"], -33)
        refuse(self.is_old(tyre), -75)
        self.put(p, g)
        return self.now + self.types[tyre["type"]][0]

    def do_auto(self, b):
        refuse(b not in (0, 1), -22)
        was, self.auto = self.auto, b
        return was

    def do_minutes(self, n):
        refuse(not 1 <= n <= 500, -22)
        before = sum(tyre["state"] == "cured" for tyre in self.tyres)
        for _ in range(n):
            self.minute()
        return [self.now, sum(tyre["state"] == "cured" for tyre in self.tyres) - before]

    def do_scrap(self, g):
        self.check(tyres=[g])
        tyre = self.tyres[g]
        refuse(tyre["state"] == "press", -16)
        refuse(tyre["state"] == "scrapped", -17)
        was, tyre["state"] = tyre["state"], "scrapped"
        return {"waits": 0, "cured": 2}[was]

    def do_can(self, p):
        self.check(presses=[p])
        return self.why(p)

    def do_waits(self, t):
        self.check(types=[t])
        these = [
            g for g, tyre in enumerate(self.tyres)
            if tyre["type"] == t and tyre["state"] == "waits" and not self.is_old(tyre)
        ]
        return [len(these)] + these

    def do_old(self):
        these = [g for g, tyre in enumerate(self.tyres) if tyre["state"] == "waits" and self.is_old(tyre)]
        return [len(these)] + these

    def states(self):
        return [one["state"] for one in self.presses + self.tyres]

    def do_cured(self, g):
        self.check(tyres=[g])
        if self.tyres[g]["state"] == "cured":
            return 0
        other = copy.deepcopy(self)
        for n in range(1, 1001):
            before = other.states()
            other.minute()
            if other.tyres[g]["state"] == "cured":
                return n
            # All idle, and nothing loaded in a whole minute: nothing will be.
            if other.states() == before and all(press["state"] == "idle" for press in other.presses):
                break
        raise Refused(-33)

    def do_ahead(self, n):
        refuse(not 1 <= n <= 500, -22)
        other = copy.deepcopy(self)
        more = other.do_minutes(n)[1]
        return [more, other.do_old()[0], sum(press["state"] == "idle" for press in other.presses)]

    def by_presses(self, t, k):
        """In which minute each that waits is begun by k presses, and in how many minutes all are cured."""
        left = self.do_waits(t)[1:]
        begun = {}
        at = self.now
        while left:
            refuse(k == 0, -33)
            begun.update((g, at) for g in left[:k])
            left = left[k:]
            at += self.types[t][0]
        return begun, at - self.now

    def do_needs(self, t):
        self.check(types=[t])
        for k in (1, 2, 3, 4, 5):
            begun = self.by_presses(t, k)[0]
            if all(at <= self.tyres[g]["came"] + self.types[t][1] for g, at in begun.items()):
                return k
        raise Refused(-33)

    def do_span(self, t, k):
        self.check(types=[t])
        refuse(k > 5, -22)
        return self.by_presses(t, k)[1]

    def do_share(self):
        kinds = range(len(self.types))
        takes = {}
        for t in kinds:
            has = sum(mould["type"] == t for mould in self.moulds)
            for k in range(min(has, len(self.presses)) + 1):
                if k > 0 or self.do_waits(t) == [0]:
                    takes[(t, k)] = self.by_presses(t, k)[1]
        ways = []
        for way in itertools.product(range(len(self.presses) + 1), repeat=len(kinds)):
            if sum(way) <= len(self.presses) and all((t, way[t]) in takes for t in kinds):
                ways.append((max([takes[(t, way[t])] for t in kinds], default=0), way))
        refuse(not ways, -33)
        least, way = min(ways)
        return [least, *way]

    def cured_where(self, at):
        these = [g for g, tyre in enumerate(self.tyres) if tyre["state"] == "cured" and at(*tyre["where"])]
        return [len(these)] + these

    def do_by(self, m):
        self.check(moulds=[m])
        return self.cured_where(lambda press, mould, nth: mould == m)

    def do_within(self, p, n):
        self.check(presses=[p])
        return self.cured_where(lambda press, mould, nth: (press, nth) == (p, n))

    def do_look(self, p):
        self.check(presses=[p])
        press = self.presses[p]
        mould = 0 if press["mould"] is None else press["mould"] + 1
        tyre = press["tyre"] + 1 if press["state"] == "cures" else 0
        number = ("idle", "changed", "cures").index(press["state"])
        return [number, mould, press["made"], press["nth"], press["left"], tyre]

    def do_mouldat(self, m):
        self.check(moulds=[m])
        places = [p + 1 for p, press in enumerate(self.presses) if press["mould"] == m]
        return [self.moulds[m]["type"], self.moulds[m]["made"], places[0] if places else 0]

    def do_tyre(self, g):
        self.check(tyres=[g])
        tyre = self.tyres[g]
        return [tyre["type"], tyre["came"], STATES.index(tyre["state"]), *tyre["where"], tyre["when"]]

    def do_sums(self):
        return [0] + [sum(tyre["state"] == state for tyre in self.tyres) for state in STATES]

    def do_state(self):
        return [self.now, len(self.types), len(self.moulds), len(self.presses), len(self.tyres), self.auto]
