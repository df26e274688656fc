"""What the program stands for: kinds of tyres, moulds, presses, tyres, and the plant that holds them."""

NONE_SUCH = -2
NO_MOULD = -6
NOT_BEGUN = -11
DIRTY = -13
WORN = -14
NOT_IDLE = -16
ALREADY = -17
OUT_OF_RANGE = -22
TOO_MANY = -28
CANNOT_BE = -33
TOO_OLD = -75

WAITS = 0
PRESSED = 1
CURED = 2
SCRAPPED = 3


class Kind:
    """How many minutes a cure takes, and how many a green tyre may wait."""

    def __init__(self, cure, wait):
        self.cure = cure
        self.wait = wait


class Mould:
    """A mould of a kind, its cures since it was cleaned, and the number of its press (None: in none)."""

    def __init__(self, kind):
        self.kind = kind
        self.cures = 0
        self.press = None


class Press:
    """A press: it's idle with no minutes left; else it cures its tyre or, without one, is being changed."""

    def __init__(self):
        self.mould = None
        self.bladder = 0
        self.cures = 0
        self.left = 0
        self.tyre = None


class Tyre:
    """A tyre of a kind; where and when it was cured is 0 as long as there's no such thing to tell."""

    def __init__(self, kind, came):
        self.kind = kind
        self.came = came
        self.stage = WAITS
        self.press = 0
        self.mould = 0
        self.bladder = 0
        self.cured = 0


class Plant:
    """All there is. What begin tells means nothing until begun is True."""

    def __init__(self):
        self.begun = False
        self.start_anew(0, 0, 0)

    def start_anew(self, change, bladder_cures, mould_cures):
        self.change = change
        self.bladder_cures = bladder_cures
        self.mould_cures = mould_cures
        self.minute = 0
        self.auto = 0
        self.kinds = []
        self.moulds = []
        self.presses = []
        self.tyres = []
