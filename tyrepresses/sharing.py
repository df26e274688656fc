"""The calls that tell how many presses a kind needs, how long they take, and how presses are best shared."""

from tyrepresses.plant import NONE_SUCH, OUT_OF_RANGE, CANNOT_BE
from tyrepresses.adding import MOST_PRESSES
from tyrepresses.running import ready_tyres


def begun_in_time(plant, t, k):
    """Whether by k presses no tyre of a kind has waited longer than it may when its cure begins."""
    kind = plant.kinds[t]
    for place, g in enumerate(ready_tyres(plant, t)):
        begins = plant.minute + place // k * kind.cure
        if begins - plant.tyres[g].came > kind.wait:
            return False
    return True


def needs(plant, t):
    if t >= len(plant.kinds):
        return [NONE_SUCH]
    for k in range(1, MOST_PRESSES + 1):
        if begun_in_time(plant, t, k):
            return [k]
    return [CANNOT_BE]


def time_by(k, many, cure):
    """How many minutes k presses take to cure so many tyres; None if they never do."""
    if many == 0:
        return 0
    if k == 0:
        return None
    return (many + k - 1) // k * cure


def span(plant, t, k):
    if t >= len(plant.kinds):
        return [NONE_SUCH]
    if k > MOST_PRESSES:
        return [OUT_OF_RANGE]
    takes = time_by(k, len(ready_tyres(plant, t)), plant.kinds[t].cure)
    if takes is None:
        return [CANNOT_BE]
    return [takes]


def count_moulds(plant, t):
    return len([mould for mould in plant.moulds if mould.kind == t])


def ways_to_share(plant):
    """Every way, as how many presses each kind has; of two the one with fewer where they first differ is first."""
    ways = [[]]
    for t in range(len(plant.kinds)):
        moulds = count_moulds(plant, t)
        longer = []
        for way in ways:
            most = min(moulds, len(plant.presses) - sum(way))
            for k in range(most + 1):
                longer.append(way + [k])
        ways = longer
    return ways


def time_of_way(plant, way, many):
    """How long a way takes, with so many tyres of each kind; None if it doesn't cure all."""
    longest = 0
    for t, k in enumerate(way):
        takes = time_by(k, many[t], plant.kinds[t].cure)
        if takes is None:
            return None
        longest = max(longest, takes)
    return longest


def share(plant):
    many = [len(ready_tyres(plant, t)) for t in range(len(plant.kinds))]
    best = None
    least = None
    for way in ways_to_share(plant):
        takes = time_of_way(plant, way, many)
        # Only a shorter time counts, so that of alike ways the first stays.
        if takes is not None and (least is None or takes < least):
            best = way
            least = takes
    if best is None:
        return [CANNOT_BE]
    return [least] + best


def answer_sharing(plant, number, given):
    """Answers call 17 needs, 18 span or 19 share."""
    if number == 17:
        return needs(plant, given[0])
    if number == 18:
        return span(plant, given[0], given[1])
    return share(plant)
