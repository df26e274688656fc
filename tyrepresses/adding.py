"""The calls that begin, and that add kinds, moulds, presses and tyres."""

from tyrepresses.plant import NONE_SUCH, OUT_OF_RANGE, TOO_MANY, Kind, Mould, Press, Tyre

MOST_CHANGE = 500
MOST_CURES = 1000
MOST_CURE = 500
MOST_WAIT = 10000
MOST_KINDS = 5
MOST_MOULDS = 8
MOST_PRESSES = 5
MOST_TYRES = 60


def begin(plant, change, bladder_cures, mould_cures):
    if change > MOST_CHANGE:
        return [OUT_OF_RANGE]
    if bladder_cures < 1 or bladder_cures > MOST_CURES:
        return [OUT_OF_RANGE]
    if mould_cures < 1 or mould_cures > MOST_CURES:
        return [OUT_OF_RANGE]
    plant.start_anew(change, bladder_cures, mould_cures)
    plant.begun = True
    return [0]


def add_kind(plant, cure, wait):
    if cure < 1 or cure > MOST_CURE or wait > MOST_WAIT:
        return [OUT_OF_RANGE]
    if len(plant.kinds) == MOST_KINDS:
        return [TOO_MANY]
    plant.kinds.append(Kind(cure, wait))
    return [len(plant.kinds) - 1]


def add_mould(plant, t):
    if t >= len(plant.kinds):
        return [NONE_SUCH]
    if len(plant.moulds) == MOST_MOULDS:
        return [TOO_MANY]
    plant.moulds.append(Mould(t))
    return [len(plant.moulds) - 1]


def add_press(plant):
    if len(plant.presses) == MOST_PRESSES:
        return [TOO_MANY]
    plant.presses.append(Press())
    return [len(plant.presses) - 1]


def add_green(plant, t):
    if t >= len(plant.kinds):
        return [NONE_SUCH]
    if len(plant.tyres) == MOST_TYRES:
        return [TOO_MANY]
    plant.tyres.append(Tyre(t, plant.minute))
    return [len(plant.tyres) - 1]


def answer_adding(plant, number, given):
    """Answers call 1 (cure, wait), 2 mould, 3 press or 4 green."""
    if number == 1:
        return add_kind(plant, given[0], given[1])
    if number == 2:
        return add_mould(plant, given[0])
    if number == 3:
        return add_press(plant)
    return add_green(plant, given[0])
