"""All of "Where it usually breaks", seen through the calls that tell and that look ahead."""

from tests.helper import SessionCase


def plant(change=0, bladder=9, mould=9, cure=3, wait=50, presses=1, tyres=0):
    """One type, and presses that each have a mould of it; their first change is done."""
    rows = [(("begin", change, bladder, mould), 0), (("type", cure, wait), 0)]
    for number in range(presses):
        rows += [(("mould", 0), number), (("press",), number), (("fit", number, number), 0)]
    if change > 0:
        rows += [(("minutes", change), (change, 0))]
    return rows + [(("green", 0), number) for number in range(tyres)]


class WhereItBreaksTest(SessionCase):
    def test_a_change_of_no_minutes(self):
        self.session(
            *plant(tyres=3), (("mould", 0), 1), (("look", 0), (0, 1, 0, 0, 0, 0)), (("ahead", 1), (0, 0, 1)),
            (("auto", 1), 0), (("cured", 0), 3), (("minutes", 3), (3, 1)), (("bladder", 0), 1), (("fit", 0, 1), 1),
            (("look", 0), (0, 2, 0, 1, 0, 0)), (("cured", 1), 3), (("ahead", 3), (1, 0, 1)),
            (("minutes", 3), (6, 1)), (("within", 0, 0), (1, 0)), (("within", 0, 1), (1, 1)),
            (("by", 0), (1, 0)), (("by", 1), (1, 1)), (("cured", 2), 3),
        )

    def test_a_tyre_in_its_last_minute_of_waiting(self):
        self.session(
            *plant(wait=4, tyres=1), (("minutes", 4), (4, 0)), (("waits", 0), (1, 0)), (("old",), 0), (("needs", 0), 1),
            (("span", 0, 1), 3), (("share",), (3, 1)), (("ahead", 1), (0, 1, 1)), (("auto", 1), 0),
            (("cured", 0), 3), (("ahead", 1), (0, 0, 0)), (("minutes", 1), (5, 0)), (("old",), 0), (("cured", 0), 2),
            (("tyre", 0), (0, 0, 1, 0, 0, 0, 0)),
        )
        self.session(
            *plant(wait=4, tyres=1), (("minutes", 5), (5, 0)), (("waits", 0), 0), (("old",), (1, 0)), (("needs", 0), 1),
            (("span", 0, 1), 0), (("share",), (0, 0)), (("auto", 1), 0), (("cured", 0), -33), (("ahead", 1), (0, 1, 1)),
        )

    def test_a_bladders_last_cure(self):
        self.session(
            *plant(change=2, bladder=2, tyres=3), (("auto", 1), 0), (("cured", 1), 6), (("cured", 2), -33),
            (("ahead", 500), (2, 1, 1)), (("minutes", 5), (7, 1)), (("look", 0), (2, 1, 1, 0, 1, 2)),
            (("minutes", 1), (8, 1)), (("look", 0), (0, 1, 2, 0, 0, 0)), (("can", 0), -14), (("cured", 2), -33),
            (("bladder", 0), 2), (("look", 0), (1, 1, 0, 1, 2, 0)), (("cured", 2), 5), (("ahead", 4), (0, 0, 0)),
            (("ahead", 5), (1, 0, 1)), (("minutes", 5), (13, 1)), (("tyre", 2), (0, 2, 2, 0, 0, 1, 13)),
        )

    def test_a_mould_that_is_dirty_just_when_it_is_idle(self):
        self.session(
            *plant(mould=1, tyres=2), (("auto", 1), 0), (("ahead", 3), (1, 0, 1)), (("ahead", 4), (1, 0, 1)),
            (("minutes", 3), (3, 1)), (("look", 0), (0, 1, 1, 0, 0, 0)), (("mouldat", 0), (0, 1, 1)), (("can", 0), -13),
            (("cured", 1), -33), (("mould", 0), 1), (("fit", 0, 1), 1), (("mouldat", 0), (0, 1, 0)), (("cured", 1), 3),
            (("clean", 0), 1), (("mouldat", 0), (0, 0, 0)), (("minutes", 3), (6, 1)), (("mouldat", 1), (0, 1, 1)),
        )

    def test_two_presses_and_one_tyre(self):
        self.session(
            *plant(presses=2, tyres=1), (("auto", 1), 0), (("ahead", 1), (0, 0, 1)), (("ahead", 3), (1, 0, 2)),
            (("span", 0, 2), 3), (("share",), (3, 1)), (("minutes", 1), (1, 0)), (("look", 0), (2, 1, 0, 0, 2, 1)),
            (("look", 1), (0, 2, 0, 0, 0, 0)), (("minutes", 2), (3, 1)), (("within", 0, 0), (1, 0)),
            (("within", 1, 0), 0), (("sums",), (0, 0, 0, 1, 0)),
        )

    def test_a_mould_taken_from_one_press_into_another(self):
        self.session(
            *plant(change=1, presses=2, tyres=2), (("load", 0, 0), 4), (("minutes", 3), (4, 1)), (("mould", 0), 2),
            (("fit", 1, 0), -17), (("fit", 0, 2), 1), (("mouldat", 0), (0, 1, 0)), (("fit", 1, 0), 2),
            (("mouldat", 0), (0, 1, 2)), (("mouldat", 1), (0, 0, 0)), (("look", 0), (1, 3, 1, 0, 1, 0)),
            (("look", 1), (1, 1, 0, 0, 1, 0)), (("minutes", 1), (5, 0)), (("load", 1, 1), 8), (("minutes", 3), (8, 1)),
            (("by", 0), (2, 0, 1)), (("within", 0, 0), (1, 0)), (("within", 1, 0), (1, 1)),
            (("tyre", 0), (0, 1, 2, 0, 0, 0, 4)), (("tyre", 1), (0, 1, 2, 1, 0, 0, 8)), (("mouldat", 0), (0, 2, 2)),
        )

    def test_a_type_without_moulds_of_which_some_wait(self):
        self.session(
            *plant(tyres=1), (("type", 5, 9), 1), (("share",), (3, 1, 0)), (("green", 1), 1), (("share",), -33),
            (("needs", 1), 1), (("span", 1, 1), 5), (("span", 1, 0), -33), (("auto", 1), 0), (("cured", 1), -33),
            (("ahead", 10), (1, 1, 1)), (("ahead", 9), (1, 0, 1)), (("minutes", 10), (10, 1)), (("old",), (1, 1)),
            (("share",), (0, 0, 0)),
        )

    def test_more_presses_than_tyres(self):
        self.session(
            *plant(presses=5, tyres=2), *[(("span", 0, k), 3) for k in (2, 3, 4, 5)], (("span", 0, 1), 6),
            (("share",), (3, 2)), (("needs", 0), 1), (("auto", 1), 0), (("ahead", 1), (0, 0, 3)),
            (("ahead", 3), (2, 0, 5)), (("cured", 1), 3),
        )

    def test_a_tyre_cured_and_scrapped(self):
        self.session(
            *plant(tyres=2), (("auto", 1), 0), (("minutes", 3), (3, 1)), (("cured", 0), 0), (("scrap", 0), 2),
            (("cured", 0), -33), (("by", 0), 0), (("within", 0, 0), 0), (("sums",), (0, 1, 0, 0, 1)),
            (("tyre", 0), (0, 0, 3, 0, 0, 0, 3)), (("look", 0), (0, 1, 1, 0, 0, 0)), (("mouldat", 0), (0, 1, 1)),
            (("ahead", 3), (1, 0, 1)), (("minutes", 3), (6, 1)), (("by", 0), (1, 1)), (("scrap", 0), -17),
        )

    def test_a_press_loaded_in_the_minute_in_which_it_is_done(self):
        self.session(
            *plant(tyres=3), (("load", 0, 2), 3), (("minutes", 3), (3, 1)), (("look", 0), (0, 1, 1, 0, 0, 0)),
            (("load", 0, 0), 6), (("look", 0), (2, 1, 1, 0, 3, 1)), (("cured", 0), 3), (("auto", 1), 0),
            (("cured", 1), 6), (("ahead", 3), (1, 0, 1)), (("ahead", 4), (1, 0, 0)), (("minutes", 4), (7, 1)),
            (("look", 0), (2, 1, 2, 0, 2, 2)), (("tyre", 0), (0, 0, 2, 0, 0, 0, 6)), (("cured", 1), 2),
        )
