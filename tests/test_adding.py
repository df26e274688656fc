"""begin, type, mould, press and green (point 1)."""

from tests.helper import MOST, NAMES, GIVEN, SessionCase


class BeginTest(SessionCase):
    def test_all_others_answer_not_begun(self):
        for name in NAMES[1:]:
            with self.subTest(name=name):
                zeros = (name,) + (0,) * GIVEN[name]
                greatest = (name,) + (MOST,) * GIVEN[name]
                self.session((zeros, -11), (greatest, -11), (("begin", 501, 1, 1), -22), (zeros, -11))

    def test_what_is_not_begun_leaves_nothing(self):
        self.session(
            (("type", 1, 0), -11), (("press",), -11), (("auto", 1), -11), (("minutes", 5), -11),
            (("begin", 0, 1, 1), 0),
            (("mould", 0), -2), (("can", 0), -2), (("auto", 0), 0), (("minutes", 1), (1, 0)),
        )

    def test_ranges(self):
        for good in ((0, 1, 1), (500, 1000, 1000), (0, 1000, 1), (500, 1, 1000)):
            with self.subTest(given=good):
                self.session((("begin",) + good, 0), (("press",), 0))
        bad_ones = (
            (501, 1, 1), (MOST, 1, 1), (0, 0, 1), (0, 1001, 1), (0, MOST, 1),
            (0, 1, 0), (0, 1, 1001), (0, 1, MOST), (MOST, MOST, MOST),
        )
        for bad in bad_ones:
            with self.subTest(given=bad):
                self.session((("begin",) + bad, -22), (("press",), -11))

    def test_a_second_begin_leaves_nothing(self):
        self.session(
            (("begin", 3, 1, 1), 0), (("type", 2, 5), 0), (("mould", 0), 0), (("press",), 0), (("green", 0), 0),
            (("auto", 1), 0), (("minutes", 7), (7, 0)), (("fit", 0, 0), 0),
            (("begin", 0, 2, 2), 0),
            (("waits", 0), -2), (("mould", 0), -2), (("clean", 0), -2), (("can", 0), -2), (("scrap", 0), -2),
            (("auto", 0), 0), (("minutes", 1), (1, 0)),
            (("type", 1, 9), 0), (("mould", 0), 0), (("press",), 0), (("green", 0), 0),
            (("fit", 0, 0), 0), (("can", 0), 0), (("load", 0, 0), 2),
        )

    def test_a_second_begin_takes_its_own_limits(self):
        self.session(
            (("begin", 4, 1, 1), 0), (("begin", 0, 2, 3), 0),
            (("type", 1, 99), 0), (("mould", 0), 0), (("press",), 0), (("fit", 0, 0), 0),
            (("green", 0), 0), (("green", 0), 1), (("green", 0), 2),
            (("load", 0, 0), 1), (("minutes", 1), (1, 1)), (("can", 0), 0),
            (("load", 0, 1), 2), (("minutes", 1), (2, 1)), (("can", 0), -14), (("bladder", 0), 2),
            (("load", 0, 2), 3), (("minutes", 1), (3, 1)), (("can", 0), -13),
        )

    def test_a_refused_second_begin_changes_nothing(self):
        for bad in ((501, 1, 1), (0, 0, 1), (0, 1, 1001)):
            with self.subTest(given=bad):
                self.session(
                    (("begin", 2, 1, 1), 0), (("type", 4, 9), 0), (("mould", 0), 0), (("press",), 0),
                    (("green", 0), 0), (("fit", 0, 0), 0), (("auto", 1), 0), (("minutes", 3), (3, 0)),
                    (("begin",) + bad, -22),
                    (("auto", 1), 1), (("can", 0), -16), (("minutes", 3), (6, 1)), (("can", 0), -14),
                    (("bladder", 0), 1), (("can", 0), -16), (("minutes", 2), (8, 0)), (("can", 0), -13),
                )


class TypeTest(SessionCase):
    def test_ranges(self):
        self.session(
            (("begin", 0, 1, 1), 0),
            (("type", 0, 0), -22), (("type", 501, 0), -22), (("type", MOST, 0), -22),
            (("type", 1, 10001), -22), (("type", 1, MOST), -22), (("type", 0, MOST), -22),
            (("type", 1, 0), 0), (("type", 500, 10000), 1), (("type", 1, 10000), 2), (("type", 500, 0), 3),
        )

    def test_at_most_five_and_range_is_told_first(self):
        self.session(
            (("begin", 0, 1, 1), 0),
            (("type", 1, 1), 0), (("type", 1, 1), 1), (("type", 1, 1), 2), (("type", 1, 1), 3), (("type", 1, 1), 4),
            (("waits", 4), 0), (("waits", 5), -2),
            (("type", 1, 1), -28), (("type", 0, 1), -22), (("type", 1, 10001), -22),
            (("waits", 5), -2),
        )

    def test_cure_and_wait_are_kept_apart(self):
        self.session(
            (("begin", 0, 9, 9), 0), (("type", 7, 2), 0), (("mould", 0), 0), (("press",), 0), (("fit", 0, 0), 0),
            (("green", 0), 0), (("green", 0), 1), (("minutes", 2), (2, 0)), (("load", 0, 0), 9),
            (("waits", 0), (1, 1)), (("minutes", 1), (3, 0)), (("waits", 0), 0), (("minutes", 6), (9, 1)),
        )


class MouldTest(SessionCase):
    def test_none_such(self):
        self.session(
            (("begin", 0, 1, 1), 0), (("mould", 0), -2), (("type", 1, 1), 0),
            (("mould", 1), -2), (("mould", MOST), -2), (("mould", 0), 0),
        )

    def test_at_most_eight_and_none_such_is_told_first(self):
        eight = [(("mould", number % 2), number) for number in range(8)]
        self.session(
            (("begin", 0, 1, 1), 0), (("type", 1, 1), 0), (("type", 1, 1), 1), *eight,
            (("clean", 7), -17), (("mould", 0), -28), (("mould", 2), -2), (("mould", MOST), -2),
            (("clean", 8), -2),
        )

    def test_new_one_is_clean_in_no_press_and_of_its_type(self):
        self.session(
            (("begin", 0, 1, 1), 0), (("type", 1, 1), 0), (("type", 1, 1), 1), (("press",), 0),
            (("mould", 1), 0), (("clean", 0), -17), (("fit", 0, 0), 0), (("can", 0), 0),
            (("green", 0), 0), (("green", 1), 1), (("load", 0, 0), -33), (("load", 0, 1), 1),
        )


class PressTest(SessionCase):
    def test_at_most_five(self):
        self.session(
            (("begin", 0, 1, 1), 0), (("can", 0), -2),
            (("press",), 0), (("press",), 1), (("press",), 2), (("press",), 3), (("press",), 4),
            (("press",), -28), (("can", 4), -6), (("can", 5), -2),
        )

    def test_new_one_is_idle_without_a_mould_with_a_new_bladder(self):
        self.session(
            (("begin", 9, 1, 1), 0), (("press",), 0), (("can", 0), -6), (("bladder", 0), -17),
            (("type", 1, 1), 0), (("mould", 0), 0), (("fit", 0, 0), 0),
        )


class GreenTest(SessionCase):
    def test_none_such(self):
        self.session(
            (("begin", 0, 1, 1), 0), (("green", 0), -2), (("type", 1, 1), 0),
            (("green", 1), -2), (("green", MOST), -2), (("green", 0), 0), (("waits", 0), (1, 0)),
        )

    def test_comes_now(self):
        self.session(
            (("begin", 0, 1, 1), 0), (("type", 1, 4), 0), (("minutes", 10), (10, 0)), (("green", 0), 0),
            (("minutes", 4), (14, 0)), (("waits", 0), (1, 0)), (("minutes", 1), (15, 0)), (("waits", 0), 0),
        )

    def test_at_most_sixty_ever_and_none_such_is_told_first(self):
        sixty = [(("green", 0), number) for number in range(60)]
        self.session(
            (("begin", 0, 1, 1), 0), (("type", 1, 1), 0), *sixty,
            (("green", 0), -28), (("green", 1), -2), (("scrap", 60), -2),
            (("scrap", 59), 0), (("scrap", 0), 0), (("green", 0), -28),
            (("waits", 0), [58] + list(range(1, 59))),
        )
