"""can, waits and old (point 3)."""

from tests.helper import MOST, SessionCase


class CanTest(SessionCase):
    def test_none_such(self):
        self.session((("begin", 0, 1, 1), 0), (("can", 0), -2), (("press",), 0), (("can", 1), -2), (("can", MOST), -2))

    def test_the_first_reason_that_is_so(self):
        self.session(
            (("begin", 2, 1, 1), 0), (("type", 1, 9), 0), (("mould", 0), 0), (("mould", 0), 1), (("press",), 0),
            (("can", 0), -6), (("fit", 0, 0), 0), (("can", 0), -16), (("minutes", 2), (2, 0)), (("can", 0), 0),
            (("green", 0), 0), (("load", 0, 0), 3), (("can", 0), -16), (("minutes", 1), (3, 1)),
            (("can", 0), -14), (("bladder", 0), 1), (("can", 0), -16), (("minutes", 2), (5, 0)),
            (("can", 0), -13), (("fit", 0, 1), 1), (("can", 0), -16), (("minutes", 2), (7, 0)), (("can", 0), 0),
        )

    def test_needs_no_tyre(self):
        self.session(
            (("begin", 0, 1, 1), 0), (("type", 1, 9), 0), (("mould", 0), 0), (("press",), 0), (("press",), 1),
            (("fit", 1, 0), 0), (("can", 1), 0), (("can", 0), -6),
        )


class WaitsTest(SessionCase):
    def test_none_such(self):
        self.session(
            (("begin", 0, 1, 1), 0), (("waits", 0), -2), (("type", 1, 1), 0), (("waits", 1), -2), (("waits", MOST), -2),
        )

    def test_none_wait(self):
        self.session((("begin", 0, 1, 1), 0), (("type", 1, 1), 0), (("waits", 0), 0))

    def test_of_its_type_alone_and_rising(self):
        self.session(
            (("begin", 0, 1, 1), 0), (("type", 1, 1), 0), (("type", 1, 1), 1),
            *[(("green", number % 3 % 2), number) for number in range(7)],
            (("waits", 0), (5, 0, 2, 3, 5, 6)), (("waits", 1), (2, 1, 4)),
        )

    def test_not_the_loaded_cured_scrapped_or_too_old(self):
        self.session(
            (("begin", 0, 9, 9), 0), (("type", 2, 3), 0), (("mould", 0), 0), (("press",), 0), (("fit", 0, 0), 0),
            *[(("green", 0), number) for number in range(4)],
            (("load", 0, 1), 2), (("waits", 0), (3, 0, 2, 3)), (("scrap", 2), 0), (("waits", 0), (2, 0, 3)),
            (("minutes", 2), (2, 1)), (("waits", 0), (2, 0, 3)), (("green", 0), 4),
            (("minutes", 1), (3, 0)), (("waits", 0), (3, 0, 3, 4)),
            (("minutes", 1), (4, 0)), (("waits", 0), (1, 4)),
        )

    def test_each_type_has_its_own_wait(self):
        self.session(
            (("begin", 0, 9, 9), 0), (("type", 1, 0), 0), (("type", 1, 10000), 1), (("green", 0), 0), (("green", 1), 1),
            (("waits", 0), (1, 0)), (("waits", 1), (1, 1)), (("minutes", 1), (1, 0)),
            (("waits", 0), 0), (("waits", 1), (1, 1)),
            *[(("minutes", 500), (501 + 500 * number, 0)) for number in range(19)],
            (("minutes", 499), (10000, 0)), (("waits", 1), (1, 1)), (("minutes", 1), (10001, 0)), (("waits", 1), 0),
        )

    def test_asking_changes_nothing(self):
        self.session(
            (("begin", 0, 1, 1), 0), (("type", 1, 1), 0), (("press",), 0), (("green", 0), 0),
            (("waits", 0), (1, 0)), (("can", 0), -6), (("waits", 0), (1, 0)), (("can", 0), -6),
            (("minutes", 1), (1, 0)), (("waits", 0), (1, 0)),
        )


class OldTest(SessionCase):
    def test_none(self):
        self.session(
            (("begin", 0, 1, 1), 0), (("old",), 0), (("type", 1, 0), 0), (("green", 0), 0), (("old",), 0),
        )

    def test_the_last_minute_of_waiting_is_not_too_old(self):
        self.session(
            (("begin", 0, 1, 1), 0), (("type", 1, 3), 0), (("green", 0), 0), (("minutes", 3), (3, 0)), (("old",), 0),
            (("waits", 0), (1, 0)), (("minutes", 1), (4, 0)), (("old",), (1, 0)), (("waits", 0), 0),
        )

    def test_the_longest_wait(self):
        self.session(
            (("begin", 0, 1, 1), 0), (("type", 1, 10000), 0), (("green", 0), 0),
            *[(("minutes", 500), (500 + 500 * number, 0)) for number in range(20)],
            (("old",), 0), (("minutes", 1), (10001, 0)), (("old",), (1, 0)),
        )

    def test_of_all_types_and_rising(self):
        self.session(
            (("begin", 0, 1, 1), 0), (("type", 1, 0), 0), (("type", 1, 4), 1), (("type", 1, 1), 2),
            (("green", 2), 0), (("green", 1), 1), (("green", 0), 2), (("green", 2), 3),
            (("minutes", 1), (1, 0)), (("old",), (1, 2)), (("green", 0), 4),
            (("minutes", 1), (2, 0)), (("old",), (4, 0, 2, 3, 4)),
            (("minutes", 3), (5, 0)), (("old",), (5, 0, 1, 2, 3, 4)),
        )

    def test_those_that_wait_alone(self):
        self.session(
            (("begin", 0, 9, 9), 0), (("type", 2, 1), 0), (("mould", 0), 0), (("press",), 0), (("fit", 0, 0), 0),
            *[(("green", 0), number) for number in range(4)], (("load", 0, 2), 2), (("minutes", 2), (2, 1)),
            (("old",), (3, 0, 1, 3)), (("green", 0), 4), (("load", 0, 4), 4), (("scrap", 1), 0),
            (("old",), (2, 0, 3)), (("minutes", 2), (4, 1)), (("old",), (2, 0, 3)),
        )

    def test_asking_changes_nothing(self):
        self.session(
            (("begin", 0, 1, 1), 0), (("type", 1, 0), 0), (("green", 0), 0), (("minutes", 1), (1, 0)),
            (("old",), (1, 0)), (("old",), (1, 0)), (("state",), (1, 1, 0, 0, 1, 0)), (("sums",), (0, 1, 0, 0, 0)),
        )
