"""What becomes of a plant if nothing is done, found on another one like it."""

from tyrepresses.plant import Kind, Mould, Press, Tyre, Plant
from tyrepresses.running import pass_minutes


def same_mould(mould):
    other = Mould(mould.kind)
    other.cures = mould.cures
    other.press = mould.press
    return other


def same_press(press):
    other = Press()
    other.mould = press.mould
    other.bladder = press.bladder
    other.cures = press.cures
    other.left = press.left
    other.tyre = press.tyre
    return other


def same_tyre(tyre):
    other = Tyre(tyre.kind, tyre.came)
    other.stage = tyre.stage
    other.press = tyre.press
    other.mould = tyre.mould
    other.bladder = tyre.bladder
    other.cured = tyre.cured
    return other


def same_plant(plant):
    other = Plant()
    other.start_anew(plant.change, plant.bladder_cures, plant.mould_cures)
    other.begun = plant.begun
    other.minute = plant.minute
    other.auto = plant.auto
    other.kinds = [Kind(kind.cure, kind.wait) for kind in plant.kinds]
    other.moulds = [same_mould(mould) for mould in plant.moulds]
    other.presses = [same_press(press) for press in plant.presses]
    other.tyres = [same_tyre(tyre) for tyre in plant.tyres]
    return other


def later(plant, n):
    """The plant as it is in n minutes; the one that is handed in stays as it is."""
    other = same_plant(plant)
    pass_minutes(other, n)
    return other
