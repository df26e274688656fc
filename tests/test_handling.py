"""fit, bladder, clean, load, auto and scrap (point 2)."""

from tests.helper import MOST, SessionCase


def plant(change=0, bladder=9, mould=9, cure=3, wait=50):
    """Two types alike, moulds 0 and 1 of type 0 and 2 of type 1, presses 0 and 1, and nothing fitted."""
    return (
        (("begin", change, bladder, mould), 0), (("type", cure, wait), 0), (("type", cure, wait), 1),
        (("mould", 0), 0), (("mould", 0), 1), (("mould", 1), 2), (("press",), 0), (("press",), 1),
    )


class FitTest(SessionCase):
    def test_none_such(self):
        self.session(
            *plant(), (("fit", 2, 0), -2), (("fit", 0, 3), -2), (("fit", MOST, 0), -2), (("fit", 0, MOST), -2),
            (("fit", 2, 3), -2), (("can", 0), -6),
        )

    def test_tells_which_was_there(self):
        self.session(
            *plant(), (("fit", 0, 0), 0), (("fit", 0, 1), 1), (("fit", 0, 2), 2), (("fit", 0, 0), 3),
        )

    def test_takes_the_minutes_of_a_change(self):
        for change in (1, 2, 500):
            with self.subTest(change=change):
                waiting = () if change == 1 else ((("minutes", change - 1), (change - 1, 0)), (("can", 0), -16))
                self.session(
                    *plant(change=change), (("fit", 0, 0), 0), (("can", 0), -16), *waiting,
                    (("minutes", 1), (change, 0)), (("can", 0), 0),
                )

    def test_a_change_of_no_minutes(self):
        self.session(
            *plant(change=0), (("fit", 0, 0), 0), (("can", 0), 0), (("fit", 0, 1), 1), (("can", 0), 0),
            (("green", 0), 0), (("load", 0, 0), 3),
        )

    def test_not_idle_while_changed_or_curing(self):
        self.session(
            *plant(change=2), (("fit", 0, 0), 0), (("fit", 0, 1), -16), (("minutes", 2), (2, 0)),
            (("green", 0), 0), (("load", 0, 0), 5), (("fit", 0, 1), -16),
            (("minutes", 2), (4, 0)), (("fit", 0, 1), -16), (("minutes", 1), (5, 1)), (("fit", 0, 1), 1),
        )

    def test_mould_in_a_press_already(self):
        self.session(
            *plant(), (("fit", 0, 0), 0), (("fit", 0, 0), -17), (("fit", 1, 0), -17), (("can", 1), -6),
            (("fit", 1, 1), 0), (("fit", 0, 1), -17), (("fit", 0, 2), 1),
        )

    def test_order_of_refusals(self):
        self.session(
            *plant(change=1), (("fit", 0, 0), 0),
            (("fit", 0, 3), -2), (("fit", 0, 0), -16), (("fit", 1, 0), -17), (("can", 1), -6),
            (("minutes", 1), (1, 0)), (("fit", 0, 0), -17), (("can", 0), 0),
        )

    def test_a_mould_taken_from_one_press_into_another(self):
        self.session(
            *plant(), (("green", 0), 0), (("green", 0), 1), (("fit", 0, 0), 0), (("load", 0, 0), 3),
            (("minutes", 3), (3, 1)), (("fit", 1, 0), -17), (("fit", 0, 2), 1), (("fit", 1, 0), 0),
            (("clean", 0), -16), (("load", 0, 1), -33), (("load", 1, 1), 6), (("minutes", 3), (6, 1)),
            (("fit", 1, 1), 1), (("clean", 0), 2), (("clean", 0), -17),
        )

    def test_a_new_mould_keeps_the_bladder(self):
        self.session(
            *plant(bladder=1), (("green", 0), 0), (("fit", 0, 0), 0), (("load", 0, 0), 3), (("minutes", 3), (3, 1)),
            (("can", 0), -14), (("fit", 0, 1), 1), (("can", 0), -14), (("bladder", 0), 1), (("can", 0), 0),
        )


class BladderTest(SessionCase):
    def test_none_such(self):
        self.session(*plant(), (("bladder", 2), -2), (("bladder", MOST), -2))

    def test_no_cure_made(self):
        self.session(
            *plant(change=1), (("bladder", 0), -17), (("can", 0), -6), (("fit", 0, 0), 0), (("bladder", 0), -16),
            (("minutes", 1), (1, 0)), (("bladder", 0), -17), (("can", 0), 0),
        )

    def test_tells_how_many_cures_and_is_changed(self):
        self.session(
            *plant(change=4, cure=2), (("green", 0), 0), (("green", 0), 1), (("fit", 0, 0), 0), (("auto", 1), 0),
            (("minutes", 5), (5, 0)), (("bladder", 0), -16), (("minutes", 1), (6, 1)),
            (("minutes", 2), (8, 1)), (("bladder", 0), 2), (("can", 0), -16), (("bladder", 0), -16),
            (("minutes", 3), (11, 0)), (("can", 0), -16), (("minutes", 1), (12, 0)), (("can", 0), 0),
            (("bladder", 0), -17),
        )

    def test_a_change_of_no_minutes(self):
        self.session(
            *plant(bladder=1), (("green", 0), 0), (("green", 0), 1), (("fit", 0, 0), 0), (("load", 0, 0), 3),
            (("minutes", 3), (3, 1)), (("bladder", 0), 1), (("can", 0), 0), (("bladder", 0), -17),
            (("load", 0, 1), 6),
        )

    def test_a_new_bladder_does_not_clean_the_mould(self):
        self.session(
            *plant(bladder=5, mould=1), (("green", 0), 0), (("fit", 0, 0), 0), (("load", 0, 0), 3),
            (("minutes", 3), (3, 1)), (("can", 0), -13), (("bladder", 0), 1), (("can", 0), -13),
        )

    def test_of_this_press_alone(self):
        self.session(
            *plant(), (("green", 0), 0), (("fit", 0, 0), 0), (("fit", 1, 1), 0), (("load", 0, 0), 3),
            (("minutes", 3), (3, 1)), (("bladder", 1), -17), (("bladder", 0), 1),
        )


class CleanTest(SessionCase):
    def test_none_such(self):
        self.session(*plant(), (("clean", 3), -2), (("clean", MOST), -2))

    def test_clean_already(self):
        self.session(*plant(), (("clean", 0), -17), (("fit", 0, 0), 0), (("fit", 0, 1), 1), (("clean", 0), -17))

    def test_in_a_press_is_told_first(self):
        self.session(*plant(), (("fit", 0, 0), 0), (("clean", 0), -16), (("clean", 1), -17))

    def test_tells_how_many_cures(self):
        self.session(
            *plant(cure=1, mould=2), (("green", 0), 0), (("green", 0), 1), (("fit", 0, 0), 0), (("auto", 1), 0),
            (("minutes", 9), (9, 2)), (("can", 0), -13), (("clean", 0), -16), (("can", 0), -13),
            (("fit", 0, 2), 1), (("clean", 0), 2), (("clean", 0), -17), (("fit", 0, 0), 3), (("can", 0), 0),
        )

    def test_being_taken_out_does_not_clean(self):
        self.session(
            *plant(mould=1), (("green", 0), 0), (("fit", 0, 0), 0), (("load", 0, 0), 3), (("minutes", 3), (3, 1)),
            (("fit", 0, 1), 1), (("can", 0), 0), (("fit", 0, 0), 2), (("can", 0), -13),
        )


class LoadTest(SessionCase):
    def test_none_such(self):
        self.session(
            *plant(), (("green", 0), 0), (("load", 2, 0), -2), (("load", 0, 1), -2), (("load", MOST, 0), -2),
            (("load", 0, MOST), -2), (("load", MOST, MOST), -2), (("load", 0, 0), -6),
        )

    def test_in_which_minute_it_is_cured(self):
        self.session(
            *plant(cure=500, wait=10000), (("fit", 0, 0), 0), (("minutes", 7), (7, 0)), (("green", 0), 0),
            (("load", 0, 0), 507), (("waits", 0), 0), (("can", 0), -16),
            (("minutes", 499), (506, 0)), (("can", 0), -16), (("minutes", 1), (507, 1)), (("can", 0), 0),
        )

    def test_a_cure_of_one_minute(self):
        self.session(
            *plant(cure=1), (("fit", 0, 0), 0), (("green", 0), 0), (("load", 0, 0), 1), (("minutes", 1), (1, 1)),
        )

    def test_each_type_takes_its_own_minutes(self):
        self.session(
            (("begin", 0, 9, 9), 0), (("type", 2, 9), 0), (("type", 5, 9), 1), (("mould", 1), 0), (("press",), 0),
            (("fit", 0, 0), 0), (("green", 0), 0), (("green", 1), 1), (("load", 0, 1), 5),
            (("minutes", 4), (4, 0)), (("minutes", 1), (5, 1)),
        )

    def test_why_the_press_cannot(self):
        self.session(
            *plant(change=1, bladder=1, mould=1), (("green", 0), 0), (("green", 0), 1),
            (("load", 0, 0), -6), (("fit", 0, 0), 0), (("load", 0, 0), -16), (("minutes", 1), (1, 0)),
            (("load", 0, 0), 4), (("load", 0, 1), -16), (("minutes", 3), (4, 1)),
            (("load", 0, 1), -14), (("bladder", 0), 1), (("load", 0, 1), -16), (("minutes", 1), (5, 0)),
            (("load", 0, 1), -13), (("waits", 0), (1, 1)),
        )

    def test_tyre_does_not_wait(self):
        self.session(
            *plant(), (("fit", 0, 0), 0), (("fit", 1, 1), 0), (("green", 0), 0), (("green", 0), 1),
            (("load", 0, 0), 3), (("load", 1, 0), -17), (("can", 1), 0),
            (("scrap", 1), 0), (("load", 1, 1), -17), (("minutes", 3), (3, 1)), (("load", 1, 0), -17),
            (("scrap", 0), 2), (("load", 1, 0), -17), (("can", 1), 0),
        )

    def test_another_type(self):
        self.session(
            *plant(), (("fit", 0, 2), 0), (("green", 0), 0), (("load", 0, 0), -33), (("can", 0), 0),
            (("waits", 0), (1, 0)),
        )

    def test_a_tyre_in_its_last_minute_of_waiting(self):
        self.session(
            *plant(wait=5), (("fit", 0, 0), 0), (("fit", 1, 1), 0), (("green", 0), 0), (("green", 0), 1),
            (("minutes", 5), (5, 0)), (("waits", 0), (2, 0, 1)), (("load", 0, 0), 8),
            (("minutes", 1), (6, 0)), (("waits", 0), 0), (("load", 1, 1), -75), (("can", 1), 0),
        )

    def test_a_type_that_may_not_wait(self):
        self.session(
            *plant(wait=0), (("fit", 0, 0), 0), (("green", 0), 0), (("green", 0), 1), (("load", 0, 0), 3),
            (("minutes", 3), (3, 1)), (("load", 0, 1), -75),
        )

    def test_order_of_refusals(self):
        self.session(
            *plant(wait=0), (("green", 0), 0), (("green", 1), 1), (("green", 1), 2), (("scrap", 2), 0),
            (("minutes", 1), (1, 0)),
            (("load", 2, 0), -2), (("load", 0, 2), -6), (("load", 0, 1), -6), (("fit", 0, 0), 0),
            (("load", 0, 2), -17), (("load", 0, 1), -33), (("load", 0, 0), -75),
            (("green", 0), 3), (("load", 0, 3), 4),
            (("load", 0, 4), -2), (("load", 0, 3), -16), (("load", 0, 2), -16), (("load", 0, 1), -16),
        )

    def test_worn_is_told_ahead_of_dirty_and_of_the_tyre(self):
        self.session(
            *plant(bladder=1, mould=1), (("green", 0), 0), (("fit", 0, 0), 0), (("load", 0, 0), 3),
            (("minutes", 3), (3, 1)), (("load", 0, 0), -14), (("bladder", 0), 1), (("load", 0, 0), -13),
            (("fit", 0, 1), 1), (("load", 0, 0), -17),
        )

    def test_no_mould_is_told_ahead_of_the_tyre(self):
        self.session(*plant(), (("green", 0), 0), (("scrap", 0), 0), (("load", 0, 0), -6))


class AutoTest(SessionCase):
    def test_tells_what_it_was(self):
        self.session(
            *plant(), (("auto", 0), 0), (("auto", 1), 0), (("auto", 1), 1), (("auto", 0), 1), (("auto", 0), 0),
        )

    def test_range(self):
        self.session(
            *plant(), (("auto", 2), -22), (("auto", MOST), -22), (("auto", 1), 0), (("auto", 2), -22), (("auto", 0), 1),
        )

    def test_off_nothing_is_loaded(self):
        self.session(
            *plant(), (("fit", 0, 0), 0), (("green", 0), 0), (("minutes", 9), (9, 0)), (("waits", 0), (1, 0)),
            (("auto", 1), 0), (("waits", 0), (1, 0)), (("can", 0), 0), (("minutes", 1), (10, 0)),
            (("waits", 0), 0), (("can", 0), -16), (("auto", 0), 1), (("minutes", 2), (12, 1)),
        )


class ScrapTest(SessionCase):
    def test_none_such(self):
        self.session(*plant(), (("scrap", 0), -2), (("green", 0), 0), (("scrap", 1), -2), (("scrap", MOST), -2))

    def test_one_that_waits(self):
        self.session(
            *plant(), (("green", 0), 0), (("green", 0), 1), (("scrap", 0), 0), (("waits", 0), (1, 1)),
            (("scrap", 0), -17),
        )

    def test_one_that_is_too_old(self):
        self.session(*plant(wait=1), (("green", 0), 0), (("minutes", 2), (2, 0)), (("scrap", 0), 0))

    def test_one_in_a_press(self):
        self.session(
            *plant(), (("green", 0), 0), (("fit", 0, 0), 0), (("load", 0, 0), 3), (("scrap", 0), -16),
            (("minutes", 2), (2, 0)), (("scrap", 0), -16), (("minutes", 1), (3, 1)),
            (("scrap", 0), 2), (("scrap", 0), -17),
        )

    def test_a_tyre_cured_and_scrapped_is_counted_when_cured(self):
        self.session(
            *plant(), (("green", 0), 0), (("green", 0), 1), (("fit", 0, 0), 0), (("load", 0, 0), 3),
            (("minutes", 3), (3, 1)), (("scrap", 0), 2), (("load", 0, 1), 6), (("minutes", 2), (5, 0)),
            (("minutes", 1), (6, 1)), (("fit", 0, 1), 1), (("clean", 0), 2), (("bladder", 0), 2),
        )

    def test_a_scrapped_one_is_not_loaded_by_itself(self):
        self.session(
            *plant(), (("green", 0), 0), (("green", 0), 1), (("fit", 0, 0), 0), (("scrap", 0), 0), (("auto", 1), 0),
            (("minutes", 1), (1, 0)), (("scrap", 1), -16), (("scrap", 0), -17), (("minutes", 9), (10, 1)),
        )
