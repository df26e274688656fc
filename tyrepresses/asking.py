"""The calls that ask what is so now, and what will be so if nothing is done."""

from tyrepresses.plant import NONE_SUCH, OUT_OF_RANGE, CANNOT_BE, CURED
from tyrepresses.running import MOST_MINUTES, ready_tyres, old_tyres, count_at, why_not
from tyrepresses.foreseeing import later

FARTHEST = 1000


def can(plant, p):
    if p >= len(plant.presses):
        return [NONE_SUCH]
    return [why_not(plant, plant.presses[p])]


def waits(plant, t):
    if t >= len(plant.kinds):
        return [NONE_SUCH]
    ready = ready_tyres(plant, t)
    return [len(ready)] + ready


def old(plant):
    these = old_tyres(plant)
    return [len(these)] + these


def cured_in(plant, g):
    if g >= len(plant.tyres):
        return [NONE_SUCH]
    if plant.tyres[g].stage == CURED:
        return [0]
    tyre = later(plant, FARTHEST).tyres[g]
    # One that was cured and then scrapped keeps its minute, but it isn't cured, and won't be.
    if tyre.stage != CURED:
        return [CANNOT_BE]
    return [tyre.cured - plant.minute]


def ahead(plant, n):
    if n < 1 or n > MOST_MINUTES:
        return [OUT_OF_RANGE]
    then = later(plant, n)
    more = count_at(then, CURED) - count_at(plant, CURED)
    idle = [press for press in then.presses if press.left == 0]
    return [more, len(old_tyres(then)), len(idle)]


def answer_asking(plant, number, given):
    """Answers call 12 can, 13 waits, 14 old, 15 cured or 16 ahead."""
    if number == 12:
        return can(plant, given[0])
    if number == 13:
        return waits(plant, given[0])
    if number == 14:
        return old(plant)
    if number == 15:
        return cured_in(plant, given[0])
    return ahead(plant, given[0])
