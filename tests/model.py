"""The document's words taken one by one, a minute at a time, to compare the program with."""


class Refused(Exception):
    pass


def refuse(when, number):
    if when:
        raise Refused(number)


class Model:
    def __init__(self):
        self.rules = None

    def answer(self, call):
        name = call[0]
        try:
            refuse(name != "begin" and self.rules is None, -11)
            told = getattr(self, "do_" + name)(*call[1:])
        except Refused as refusal:
            return [refusal.args[0]]
        return told if isinstance(told, list) else [told]

    def check(self, types=(), moulds=(), presses=(), tyres=()):
        refuse(any(t not in range(len(self.types)) for t in types), -2)
        refuse(any(m not in range(len(self.moulds)) for m in moulds), -2)
        refuse(any(p not in range(len(self.presses)) for p in presses), -2)
        refuse(any(g not in range(len(self.tyres)) for g in tyres), -2)

    def why(self, p):
        press = self.presses[p]
        if press["state"] != "idle":
            return -16
        if press["mould"] is None:
            return -6
        if press["made"] >= self.rules[1]:
            return -14
        if self.moulds[press["mould"]]["made"] >= self.rules[2]:
            return -13
        return 0

    def is_old(self, tyre):
        return self.now - tyre["came"] > self.types[tyre["type"]][1]

    def put(self, p, g):
        self.presses[p].update(state="cures", left=self.types[self.tyres[g]["type"]][0], tyre=g)
        self.tyres[g]["state"] = "press"

    def change(self, press):
        if self.rules[0] > 0:
            press.update(state="changed", left=self.rules[0])

    def minute(self):
        if self.auto:
            for p, press in enumerate(self.presses):
                if self.why(p) == 0:
                    for g in self.do_waits(self.moulds[press["mould"]]["type"])[1:2]:
                        self.put(p, g)
        for press in self.presses:
            if press["state"] != "idle":
                press["left"] -= 1
                if press["left"] == 0:
                    if press["state"] == "cures":
                        self.tyres[press["tyre"]]["state"] = "cured"
                        press["made"] += 1
                        self.moulds[press["mould"]]["made"] += 1
                    press["state"] = "idle"
        self.now += 1

    def do_begin(self, c, l, d):
        refuse(not (0 <= c <= 500 and 1 <= l <= 1000 and 1 <= d <= 1000), -22)
        self.rules = (c, l, d)
        self.types, self.moulds, self.presses, self.tyres = [], [], [], []
        self.now, self.auto = 0, 0
        return 0

    def do_type(self, c, g):
        refuse(not (1 <= c <= 500 and 0 <= g <= 10000), -22)
        refuse(len(self.types) >= 5, -28)
        self.types.append((c, g))
        return len(self.types) - 1

    def do_mould(self, t):
        self.check(types=[t])
        refuse(len(self.moulds) >= 8, -28)
        self.moulds.append({"type": t, "made": 0})
        return len(self.moulds) - 1

    def do_press(self):
        refuse(len(self.presses) >= 5, -28)
        self.presses.append({"mould": None, "made": 0, "state": "idle", "left": 0, "tyre": None})
        return len(self.presses) - 1

    def do_green(self, t):
        self.check(types=[t])
        refuse(len(self.tyres) >= 60, -28)
        self.tyres.append({"type": t, "came": self.now, "state": "waits"})
        return len(self.tyres) - 1

    def do_fit(self, p, m):
        self.check(presses=[p], moulds=[m])
        press = self.presses[p]
        refuse(press["state"] != "idle", -16)
        refuse(any(other["mould"] == m for other in self.presses), -17)
        was = press["mould"]
        press["mould"] = m
        self.change(press)
        return 0 if was is None else was + 1

    def do_bladder(self, p):
        self.check(presses=[p])
        press = self.presses[p]
        refuse(press["state"] != "idle", -16)
        refuse(press["made"] == 0, -17)
        made, press["made"] = press["made"], 0
        self.change(press)
        return made

    def do_clean(self, m):
        self.check(moulds=[m])
        refuse(any(press["mould"] == m for press in self.presses), -16)
        made = self.moulds[m]["made"]
        refuse(made == 0, -17)
        self.moulds[m]["made"] = 0
        return made

    def do_load(self, p, g):
        self.check(presses=[p], tyres=[g])
        refuse(self.why(p) != 0, self.why(p))
        tyre = self.tyres[g]
        refuse(tyre["state"] != "waits", -17)
        refuse(tyre["type"] != self.moulds[self.presses[p]["mould"]]["type"], -33)
        refuse(self.is_old(tyre), -75)
        self.put(p, g)
        return self.now + self.types[tyre["type"]][0]

    def do_auto(self, b):
        refuse(b not in (0, 1), -22)
        was, self.auto = self.auto, b
        return was

    def do_minutes(self, n):
        refuse(not 1 <= n <= 500, -22)
        before = sum(tyre["state"] == "cured" for tyre in self.tyres)
        for _ in range(n):
            self.minute()
        return [self.now, sum(tyre["state"] == "cured" for tyre in self.tyres) - before]

    def do_scrap(self, g):
        self.check(tyres=[g])
        tyre = self.tyres[g]
        refuse(tyre["state"] == "press", -16)
        refuse(tyre["state"] == "scrapped", -17)
        was, tyre["state"] = tyre["state"], "scrapped"
        return {"waits": 0, "cured": 2}[was]

    def do_can(self, p):
        self.check(presses=[p])
        return self.why(p)

    def do_waits(self, t):
        self.check(types=[t])
        these = [
            g for g, tyre in enumerate(self.tyres)
            if tyre["type"] == t and tyre["state"] == "waits" and not self.is_old(tyre)
        ]
        return [len(these)] + these
