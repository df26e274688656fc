"""The calls that ask, and change nothing."""

from tyrepresses.plant import NONE_SUCH
from tyrepresses.running import ready_tyres, why_not


def can(plant, p):
    if p >= len(plant.presses):
        return [NONE_SUCH]
    return [why_not(plant, plant.presses[p])]


def waits(plant, t):
    if t >= len(plant.kinds):
        return [NONE_SUCH]
    ready = ready_tyres(plant, t)
    return [len(ready)] + ready


def answer_asking(plant, number, given):
    """Answers call 12 can or 13 waits."""
    if number == 12:
        return can(plant, given[0])
    if number == 13:
        return waits(plant, given[0])
    raise NotImplementedError(f"call {number}")
