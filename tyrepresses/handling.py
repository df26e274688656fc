"""The calls by which presses, moulds and tyres are handled, and minutes go by."""

from tyrepresses.plant import NONE_SUCH, NOT_IDLE, ALREADY, OUT_OF_RANGE, CANNOT_BE, TOO_OLD
from tyrepresses.plant import WAITS, PRESSED, CURED, SCRAPPED
from tyrepresses.running import MOST_MINUTES, too_old, why_not, put_in, count_at, pass_minutes


def fit(plant, p, m):
    if p >= len(plant.presses) or m >= len(plant.moulds):
        return [NONE_SUCH]
    press = plant.presses[p]
    if press.left > 0:
        return [NOT_IDLE]
    if plant.moulds[m].press is not None:
        return [ALREADY]
    before = 0
    if press.mould is not None:
        before = press.mould + 1
        plant.moulds[press.mould].press = None
    press.mould = m
    plant.moulds[m].press = p
    press.left = plant.change
    return [before]


def renew_bladder(plant, p):
    if p >= len(plant.presses):
        return [NONE_SUCH]
    press = plant.presses[p]
    if press.left > 0:
        return [NOT_IDLE]
    if press.cures == 0:
        return [ALREADY]
    made = press.cures
    press.bladder += 1
    press.cures = 0
    press.left = plant.change
    return [made]


def clean(plant, m):
    if m >= len(plant.moulds):
        return [NONE_SUCH]
    mould = plant.moulds[m]
    if mould.press is not None:
        return [NOT_IDLE]
    if mould.cures == 0:
        return [ALREADY]
    made = mould.cures
    mould.cures = 0
    return [made]


def load(plant, p, g):
    if p >= len(plant.presses) or g >= len(plant.tyres):
        return [NONE_SUCH]
    press = plant.presses[p]
    tyre = plant.tyres[g]
    why = why_not(plant, press)
    if why < 0:
        return [why]
    if tyre.stage != WAITS:
        return [ALREADY]
    if tyre.kind != plant.moulds[press.mould].kind:
        return [CANNOT_BE]
    if too_old(plant, tyre):
        return [TOO_OLD]
    put_in(plant, p, g)
    return [plant.minute + press.left]


def set_auto(plant, b):
    if b > 1:
        return [OUT_OF_RANGE]
    before = plant.auto
    plant.auto = b
    return [before]


def minutes(plant, n):
    if n < 1 or n > MOST_MINUTES:
        return [OUT_OF_RANGE]
    before = count_at(plant, CURED)
    pass_minutes(plant, n)
    return [plant.minute, count_at(plant, CURED) - before]


def scrap(plant, g):
    if g >= len(plant.tyres):
        return [NONE_SUCH]
    tyre = plant.tyres[g]
    if tyre.stage == PRESSED:
        return [NOT_IDLE]
    if tyre.stage == SCRAPPED:
        return [ALREADY]
    before = tyre.stage
    tyre.stage = SCRAPPED
    return [before]


def answer_handling(plant, number, given):
    """Answers call 5 fit, 6 bladder, 7 clean, 8 load, 9 auto, 10 minutes or 11 scrap."""
    if number == 5:
        return fit(plant, given[0], given[1])
    if number == 6:
        return renew_bladder(plant, given[0])
    if number == 7:
        return clean(plant, given[0])
    if number == 8:
        return load(plant, given[0], given[1])
    if number == 9:
        return set_auto(plant, given[0])
    if number == 10:
        return minutes(plant, given[0])
    return scrap(plant, given[0])
