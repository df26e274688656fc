"""The calls that tell what was cured in what, and what there is."""

from tyrepresses.plant import NONE_SUCH, WAITS, PRESSED, CURED, SCRAPPED
from tyrepresses.running import count_at

IDLE = 0
CHANGED = 1
CURES = 2


def number_and_one(number):
    """A number and one, so that 0 may stand for none."""
    if number is None:
        return 0
    return number + 1


def cured_tyres(plant):
    return [g for g, tyre in enumerate(plant.tyres) if tyre.stage == CURED]


def cured_by(plant, m):
    if m >= len(plant.moulds):
        return [NONE_SUCH]
    these = [g for g in cured_tyres(plant) if plant.tyres[g].mould == m]
    return [len(these)] + these


def cured_within(plant, p, n):
    if p >= len(plant.presses):
        return [NONE_SUCH]
    here = [g for g in cured_tyres(plant) if plant.tyres[g].press == p]
    these = [g for g in here if plant.tyres[g].bladder == n]
    return [len(these)] + these


def doing(press):
    if press.left == 0:
        return IDLE
    if press.tyre is None:
        return CHANGED
    return CURES


def look(plant, p):
    if p >= len(plant.presses):
        return [NONE_SUCH]
    press = plant.presses[p]
    mould = number_and_one(press.mould)
    tyre = number_and_one(press.tyre)
    return [doing(press), mould, press.cures, press.bladder, press.left, tyre]


def look_at_mould(plant, m):
    if m >= len(plant.moulds):
        return [NONE_SUCH]
    mould = plant.moulds[m]
    return [mould.kind, mould.cures, number_and_one(mould.press)]


def look_at_tyre(plant, g):
    if g >= len(plant.tyres):
        return [NONE_SUCH]
    tyre = plant.tyres[g]
    return [tyre.kind, tyre.came, tyre.stage, tyre.press, tyre.mould, tyre.bladder, tyre.cured]


def sums(plant):
    return [0] + [count_at(plant, stage) for stage in (WAITS, PRESSED, CURED, SCRAPPED)]


def state(plant):
    there_are = [len(plant.kinds), len(plant.moulds), len(plant.presses), len(plant.tyres)]
    return [plant.minute] + there_are + [plant.auto]


def answer_telling(plant, number, given):
    """Answers call 20 by, 21 within, 22 look, 23 mouldat, 24 tyre, 25 sums or 26 state."""
    if number == 20:
        return cured_by(plant, given[0])
    if number == 21:
        return cured_within(plant, given[0], given[1])
    if number == 22:
        return look(plant, given[0])
    if number == 23:
        return look_at_mould(plant, given[0])
    if number == 24:
        return look_at_tyre(plant, given[0])
    if number == 25:
        return sums(plant)
    return state(plant)
