"""How presses are loaded and how minutes go by."""

from tyrepresses.plant import NOT_IDLE, NO_MOULD, WORN, DIRTY, WAITS, PRESSED, CURED

# How many minutes may go by, or be looked ahead, in one call.
MOST_MINUTES = 500


def too_old(plant, tyre):
    return plant.minute - tyre.came > plant.kinds[tyre.kind].wait


def ready_tyres(plant, kind):
    """The numbers, rising, of the tyres of a kind that wait and aren't too old."""
    waiting = [g for g, tyre in enumerate(plant.tyres) if tyre.kind == kind and tyre.stage == WAITS]
    return [g for g in waiting if not too_old(plant, plant.tyres[g])]


def old_tyres(plant):
    """The numbers, rising, of the tyres that wait and are too old."""
    return [g for g, tyre in enumerate(plant.tyres) if tyre.stage == WAITS and too_old(plant, tyre)]


def count_at(plant, stage):
    return len([tyre for tyre in plant.tyres if tyre.stage == stage])


def why_not(plant, press):
    """Why a press can't cure now, the first that's so; 0 if it can."""
    if press.left > 0:
        return NOT_IDLE
    if press.mould is None:
        return NO_MOULD
    if press.cures >= plant.bladder_cures:
        return WORN
    if plant.moulds[press.mould].cures >= plant.mould_cures:
        return DIRTY
    return 0


def put_in(plant, p, g):
    press = plant.presses[p]
    tyre = plant.tyres[g]
    press.tyre = g
    press.left = plant.kinds[tyre.kind].cure
    tyre.stage = PRESSED
    # Kept with the tyre, since the press may have another mould and bladder later.
    tyre.press = p
    tyre.mould = press.mould
    tyre.bladder = press.bladder


def load_presses(plant):
    for p in range(len(plant.presses)):
        press = plant.presses[p]
        if why_not(plant, press) == 0:
            ready = ready_tyres(plant, plant.moulds[press.mould].kind)
            if len(ready) > 0:
                put_in(plant, p, ready[0])


def finish_cure(plant, press):
    tyre = plant.tyres[press.tyre]
    tyre.stage = CURED
    tyre.cured = plant.minute
    press.tyre = None
    press.cures += 1
    plant.moulds[press.mould].cures += 1


def work_on(plant, step):
    plant.minute += step
    for press in plant.presses:
        if press.left > 0:
            press.left -= step
            if press.left == 0 and press.tyre is not None:
                finish_cure(plant, press)


def pass_minutes(plant, n):
    """Lets n minutes go by."""
    left = n
    while left > 0:
        if plant.auto == 1:
            load_presses(plant)
        # Until the first press is done nothing new can be loaded: no press becomes idle, no tyre comes,
        # and those that wait only grow older. So these minutes go by at once.
        step = min([left] + [press.left for press in plant.presses if press.left > 0])
        work_on(plant, step)
        left -= step
