"""by and within (point 5); look, mouldat, tyre, sums and state (point 6)."""

from tests.helper import MOST, SessionCase, run


def plant(change=0, bladder=9, mould=9):
    """Types 0 and 1, moulds 0 and 1 of type 0 and 2 of type 1, presses 0 and 1 with moulds 0 and 2, four tyres."""
    return (
        (("begin", change, bladder, mould), 0), (("type", 3, 50), 0), (("type", 2, 40), 1),
        (("mould", 0), 0), (("mould", 0), 1), (("mould", 1), 2), (("press",), 0), (("press",), 1),
        (("fit", 0, 0), 0), (("fit", 1, 2), 0),
        (("green", 0), 0), (("green", 1), 1), (("green", 0), 2), (("green", 0), 3),
    )


class ByTest(SessionCase):
    def test_none_such(self):
        self.session(
            (("begin", 0, 1, 1), 0), (("by", 0), -2), (("type", 1, 1), 0), (("mould", 0), 0), (("by", 1), -2),
            (("by", MOST), -2), (("by", 0), 0),
        )

    def test_cured_ones_alone_and_rising(self):
        self.session(
            *plant(), (("load", 0, 2), 3), (("load", 1, 1), 2), (("by", 0), 0), (("minutes", 2), (2, 1)),
            (("by", 0), 0), (("by", 2), (1, 1)), (("minutes", 1), (3, 1)), (("by", 0), (1, 2)),
            (("load", 0, 0), 6), (("minutes", 3), (6, 1)), (("by", 0), (2, 0, 2)), (("by", 1), 0), (("by", 2), (1, 1)),
        )

    def test_after_the_mould_was_changed_cleaned_and_taken_elsewhere(self):
        self.session(
            *plant(), (("load", 0, 0), 3), (("minutes", 3), (3, 1)), (("fit", 0, 1), 1), (("by", 0), (1, 0)),
            (("by", 1), 0), (("load", 0, 2), 6), (("minutes", 3), (6, 1)), (("by", 0), (1, 0)), (("by", 1), (1, 2)),
            (("clean", 0), 1), (("by", 0), (1, 0)), (("fit", 1, 0), 3), (("load", 1, 3), 9), (("minutes", 3), (9, 1)),
            (("by", 0), (2, 0, 3)), (("by", 1), (1, 2)), (("by", 2), 0),
        )

    def test_after_a_cured_one_was_scrapped(self):
        self.session(
            *plant(), (("auto", 1), 0), (("minutes", 9), (9, 4)), (("by", 0), (3, 0, 2, 3)), (("scrap", 2), 2),
            (("by", 0), (2, 0, 3)), (("scrap", 0), 2), (("scrap", 3), 2), (("by", 0), 0), (("by", 2), (1, 1)),
        )

    def test_never_loaded_ones_are_not_in_mould_0(self):
        self.session(*plant(), (("scrap", 0), 0), (("by", 0), 0), (("within", 0, 0), 0))


class WithinTest(SessionCase):
    def test_none_such(self):
        self.session(
            (("begin", 0, 1, 1), 0), (("within", 0, 0), -2), (("press",), 0), (("within", 1, 0), -2),
            (("within", MOST, 0), -2), (("within", MOST, MOST), -2), (("within", 0, 0), 0),
        )

    def test_a_bladder_that_never_was(self):
        self.session(
            *plant(), (("auto", 1), 0), (("minutes", 9), (9, 4)), (("within", 0, 0), (3, 0, 2, 3)),
            (("within", 0, 1), 0), (("within", 0, MOST), 0), (("within", 1, 0), (1, 1)),
        )

    def test_not_while_it_cures(self):
        self.session(
            *plant(), (("load", 0, 3), 3), (("minutes", 2), (2, 0)), (("within", 0, 0), 0), (("minutes", 1), (3, 1)),
            (("within", 0, 0), (1, 3)), (("load", 0, 0), 6), (("minutes", 3), (6, 1)), (("within", 0, 0), (2, 0, 3)),
        )

    def test_after_the_bladder_was_changed(self):
        self.session(
            *plant(change=2), (("minutes", 2), (2, 0)), (("load", 0, 0), 5), (("minutes", 3), (5, 1)),
            (("bladder", 0), 1), (("within", 0, 0), (1, 0)), (("within", 0, 1), 0), (("minutes", 2), (7, 0)),
            (("load", 0, 2), 10), (("minutes", 3), (10, 1)), (("within", 0, 0), (1, 0)), (("within", 0, 1), (1, 2)),
            (("bladder", 0), 1), (("minutes", 2), (12, 0)), (("load", 0, 3), 15), (("minutes", 3), (15, 1)),
            (("within", 0, 0), (1, 0)), (("within", 0, 1), (1, 2)), (("within", 0, 2), (1, 3)),
            (("by", 0), (3, 0, 2, 3)),
        )

    def test_after_the_mould_was_changed(self):
        self.session(
            *plant(), (("load", 0, 0), 3), (("minutes", 3), (3, 1)), (("fit", 0, 1), 1), (("load", 0, 2), 6),
            (("minutes", 3), (6, 1)), (("within", 0, 0), (2, 0, 2)), (("fit", 1, 0), 3), (("load", 1, 3), 9),
            (("minutes", 3), (9, 1)), (("within", 0, 0), (2, 0, 2)), (("within", 1, 0), (1, 3)),
        )

    def test_after_a_cured_one_was_scrapped(self):
        self.session(
            *plant(), (("auto", 1), 0), (("minutes", 9), (9, 4)), (("scrap", 2), 2), (("within", 0, 0), (2, 0, 3)),
            (("bladder", 0), 3), (("scrap", 0), 2), (("within", 0, 0), (1, 3)), (("within", 0, 1), 0),
        )


class LookTest(SessionCase):
    def test_none_such(self):
        self.session(
            (("begin", 0, 1, 1), 0), (("look", 0), -2), (("press",), 0), (("look", 1), -2), (("look", MOST), -2),
        )

    def test_a_new_one(self):
        self.session((("begin", 9, 1, 1), 0), (("press",), 0), (("look", 0), (0, 0, 0, 0, 0, 0)))

    def test_idle_changed_and_curing(self):
        self.session(
            *plant(change=4), (("look", 0), (1, 1, 0, 0, 4, 0)), (("look", 1), (1, 3, 0, 0, 4, 0)),
            (("minutes", 3), (3, 0)), (("look", 0), (1, 1, 0, 0, 1, 0)), (("minutes", 1), (4, 0)),
            (("look", 0), (0, 1, 0, 0, 0, 0)), (("load", 0, 0), 7), (("look", 0), (2, 1, 0, 0, 3, 1)),
            (("look", 1), (0, 3, 0, 0, 0, 0)), (("minutes", 2), (6, 0)), (("look", 0), (2, 1, 0, 0, 1, 1)),
            (("minutes", 1), (7, 1)), (("look", 0), (0, 1, 1, 0, 0, 0)), (("load", 0, 3), 10),
            (("look", 0), (2, 1, 1, 0, 3, 4)), (("minutes", 3), (10, 1)), (("look", 0), (0, 1, 2, 0, 0, 0)),
            (("bladder", 0), 2), (("look", 0), (1, 1, 0, 1, 4, 0)), (("minutes", 4), (14, 0)),
            (("look", 0), (0, 1, 0, 1, 0, 0)), (("fit", 0, 1), 1), (("look", 0), (1, 2, 0, 1, 4, 0)),
        )

    def test_a_change_of_no_minutes(self):
        self.session(
            *plant(), (("look", 0), (0, 1, 0, 0, 0, 0)), (("fit", 0, 1), 1), (("look", 0), (0, 2, 0, 0, 0, 0)),
            (("load", 0, 0), 3), (("minutes", 3), (3, 1)), (("bladder", 0), 1), (("look", 0), (0, 2, 0, 1, 0, 0)),
        )

    def test_loaded_by_itself(self):
        self.session(
            *plant(), (("auto", 1), 0), (("look", 0), (0, 1, 0, 0, 0, 0)), (("minutes", 1), (1, 0)),
            (("look", 0), (2, 1, 0, 0, 2, 1)), (("look", 1), (2, 3, 0, 0, 1, 2)),
            (("minutes", 1), (2, 1)), (("look", 0), (2, 1, 0, 0, 1, 1)), (("look", 1), (0, 3, 1, 0, 0, 0)),
            (("minutes", 1), (3, 1)), (("look", 0), (0, 1, 1, 0, 0, 0)), (("minutes", 1), (4, 0)),
            (("look", 0), (2, 1, 1, 0, 2, 3)),
        )


class MouldatTest(SessionCase):
    def test_none_such(self):
        self.session(
            (("begin", 0, 1, 1), 0), (("mouldat", 0), -2), (("type", 1, 1), 0), (("mould", 0), 0),
            (("mouldat", 1), -2), (("mouldat", MOST), -2), (("mouldat", 0), (0, 0, 0)),
        )

    def test_its_type_its_cures_and_its_press(self):
        self.session(
            *plant(), (("mouldat", 0), (0, 0, 1)), (("mouldat", 1), (0, 0, 0)), (("mouldat", 2), (1, 0, 2)),
            (("load", 0, 0), 3), (("mouldat", 0), (0, 0, 1)), (("minutes", 2), (2, 0)), (("mouldat", 0), (0, 0, 1)),
            (("minutes", 1), (3, 1)), (("mouldat", 0), (0, 1, 1)), (("bladder", 0), 1), (("mouldat", 0), (0, 1, 1)),
            (("fit", 0, 1), 1), (("mouldat", 0), (0, 1, 0)), (("mouldat", 1), (0, 0, 1)),
            (("fit", 1, 0), 3), (("mouldat", 0), (0, 1, 2)), (("mouldat", 2), (1, 0, 0)),
            (("fit", 1, 2), 1), (("clean", 0), 1), (("mouldat", 0), (0, 0, 0)),
        )


class TyreTest(SessionCase):
    def test_none_such(self):
        self.session(
            (("begin", 0, 1, 1), 0), (("tyre", 0), -2), (("type", 1, 1), 0), (("green", 0), 0), (("tyre", 1), -2),
            (("tyre", MOST), -2), (("tyre", 0), (0, 0, 0, 0, 0, 0, 0)),
        )

    def test_in_each_of_its_states(self):
        self.session(
            *plant(), (("minutes", 5), (5, 0)), (("green", 1), 4), (("tyre", 4), (1, 5, 0, 0, 0, 0, 0)),
            (("load", 1, 4), 7), (("tyre", 4), (1, 5, 1, 1, 2, 0, 0)), (("minutes", 1), (6, 0)),
            (("tyre", 4), (1, 5, 1, 1, 2, 0, 0)), (("minutes", 1), (7, 1)), (("tyre", 4), (1, 5, 2, 1, 2, 0, 7)),
            (("minutes", 9), (16, 0)), (("tyre", 4), (1, 5, 2, 1, 2, 0, 7)), (("scrap", 4), 2),
            (("tyre", 4), (1, 5, 3, 1, 2, 0, 7)), (("scrap", 3), 0), (("tyre", 3), (0, 0, 3, 0, 0, 0, 0)),
            (("minutes", 1), (17, 0)), (("tyre", 4), (1, 5, 3, 1, 2, 0, 7)), (("tyre", 3), (0, 0, 3, 0, 0, 0, 0)),
        )

    def test_too_old_it_still_waits(self):
        self.session(
            *plant(), (("minutes", 51), (51, 0)), (("old",), (4, 0, 1, 2, 3)), (("tyre", 0), (0, 0, 0, 0, 0, 0, 0)),
        )

    def test_where_it_was_cured_stays_when_mould_and_bladder_are_changed(self):
        self.session(
            *plant(change=1), (("minutes", 1), (1, 0)), (("load", 0, 0), 4), (("minutes", 3), (4, 1)),
            (("bladder", 0), 1), (("minutes", 1), (5, 0)), (("fit", 0, 1), 1), (("minutes", 1), (6, 0)),
            (("load", 0, 2), 9), (("tyre", 2), (0, 0, 1, 0, 1, 1, 0)), (("minutes", 3), (9, 1)),
            (("tyre", 0), (0, 0, 2, 0, 0, 0, 4)), (("tyre", 2), (0, 0, 2, 0, 1, 1, 9)), (("scrap", 2), 2),
            (("tyre", 2), (0, 0, 3, 0, 1, 1, 9)),
        )

    def test_the_minute_is_the_one_that_comes_then(self):
        self.session(
            *plant(), (("auto", 1), 0), (("minutes", 500), (500, 4)), (("tyre", 0), (0, 0, 2, 0, 0, 0, 3)),
            (("tyre", 1), (1, 0, 2, 1, 2, 0, 2)), (("tyre", 2), (0, 0, 2, 0, 0, 0, 6)),
            (("tyre", 3), (0, 0, 2, 0, 0, 0, 9)),
        )


class SumsTest(SessionCase):
    def test_none(self):
        self.session((("begin", 0, 1, 1), 0), (("sums",), (0, 0, 0, 0, 0)))

    def test_in_each_state(self):
        self.session(
            *plant(), (("sums",), (0, 4, 0, 0, 0)), (("load", 0, 0), 3), (("load", 1, 1), 2),
            (("sums",), (0, 2, 2, 0, 0)),
            (("minutes", 2), (2, 1)), (("sums",), (0, 2, 1, 1, 0)), (("scrap", 1), 2), (("sums",), (0, 2, 1, 0, 1)),
            (("scrap", 2), 0), (("sums",), (0, 1, 1, 0, 2)), (("minutes", 1), (3, 1)), (("sums",), (0, 1, 0, 1, 2)),
            (("minutes", 50), (53, 0)), (("old",), (1, 3)), (("sums",), (0, 1, 0, 1, 2)),
        )

    def test_all_that_ever_came(self):
        self.session(
            (("begin", 0, 1, 1), 0), (("type", 1, 1), 0), *[(("green", 0), number) for number in range(60)],
            (("sums",), (0, 60, 0, 0, 0)), (("green", 0), -28), (("sums",), (0, 60, 0, 0, 0)), (("scrap", 0), 0),
            (("green", 0), -28), (("sums",), (0, 59, 0, 0, 1)), (("state",), (0, 1, 0, 0, 60, 0)),
        )


class StateTest(SessionCase):
    def test_new(self):
        self.session((("begin", 0, 1, 1), 0), (("state",), (0, 0, 0, 0, 0, 0)))

    def test_as_all_comes(self):
        self.session(
            (("begin", 0, 1, 1), 0), (("type", 1, 1), 0), (("state",), (0, 1, 0, 0, 0, 0)), (("type", 1, 1), 1),
            (("mould", 0), 0), (("state",), (0, 2, 1, 0, 0, 0)), (("press",), 0), (("state",), (0, 2, 1, 1, 0, 0)),
            (("green", 1), 0), (("state",), (0, 2, 1, 1, 1, 0)), (("auto", 1), 0), (("state",), (0, 2, 1, 1, 1, 1)),
            (("minutes", 500), (500, 0)), (("state",), (500, 2, 1, 1, 1, 1)), (("auto", 0), 1),
            (("minutes", 1), (501, 0)), (("state",), (501, 2, 1, 1, 1, 0)), (("scrap", 0), 0),
            (("state",), (501, 2, 1, 1, 1, 0)),
        )

    def test_the_most_of_each(self):
        self.session(
            (("begin", 0, 1, 1), 0), *[(("type", 1, 1), number) for number in range(5)], (("type", 1, 1), -28),
            *[(("mould", 4), number) for number in range(8)], (("mould", 4), -28),
            *[(("press",), number) for number in range(5)], (("press",), -28), (("auto", 2), -22),
            (("state",), (0, 5, 8, 5, 0, 0)), (("minutes", 501), -22), (("state",), (0, 5, 8, 5, 0, 0)),
        )

    def test_a_begin_again(self):
        self.session(
            *plant(change=3), (("auto", 1), 0), (("minutes", 7), (7, 2)), (("begin", 501, 1, 1), -22),
            (("state",), (7, 2, 3, 2, 4, 1)), (("sums",), (0, 1, 1, 2, 0)), (("look", 0), (2, 1, 1, 0, 2, 3)),
            (("begin", 0, 1, 1), 0), (("state",), (0, 0, 0, 0, 0, 0)), (("sums",), (0, 0, 0, 0, 0)),
            (("look", 0), -2), (("mouldat", 0), -2), (("tyre", 0), -2), (("by", 0), -2), (("within", 0, 0), -2),
            (("cured", 0), -2), (("needs", 0), -2), (("span", 0, 0), -2), (("share",), 0), (("old",), 0),
            (("ahead", 1), (0, 0, 0)),
        )


class AskingTest(SessionCase):
    def test_the_greatest_number_of_each_and_one_above(self):
        full = [(("begin", 0, 9, 9), 0)] + [(("type", 2, 9), number) for number in range(5)]
        full += [(("mould", 4), number) for number in range(8)] + [(("press",), number) for number in range(5)]
        full += [(("green", 4), number) for number in range(60)]
        self.session(
            *full, (("fit", 4, 7), 0), (("load", 4, 59), 2), (("minutes", 2), (2, 1)),
            (("by", 7), (1, 59)), (("by", 8), -2), (("within", 4, 0), (1, 59)), (("within", 5, 0), -2),
            (("look", 4), (0, 8, 1, 0, 0, 0)), (("look", 5), -2), (("mouldat", 7), (4, 1, 5)), (("mouldat", 8), -2),
            (("tyre", 59), (4, 0, 2, 4, 7, 0, 2)), (("tyre", 60), -2), (("cured", 59), 0), (("cured", 60), -2),
            (("needs", 4), -33), (("needs", 5), -2), (("span", 4, 5), 24), (("span", 5, 5), -2),
            (("share",), (24, 0, 0, 0, 0, 5)), (("state",), (2, 5, 8, 5, 60, 0)), (("sums",), (0, 59, 0, 1, 0)),
        )

    def test_asking_changes_nothing(self):
        asked = [("by", 0), ("by", 9), ("within", 0, 0), ("within", 1, MOST), ("within", 9, 0), ("sums",), ("state",)]
        asked += [("look", 0), ("look", 9), ("mouldat", 2), ("mouldat", 9), ("tyre", 0), ("tyre", 99)]
        calls = [row[0] for row in plant(change=1)] + [("auto", 1), ("minutes", 5)]
        once = run(calls + asked + [("minutes", 2)] + asked)
        twice = run(calls + asked * 3 + [("minutes", 2)] + asked)
        self.assertEqual(twice[len(calls):len(calls) + len(asked)], once[len(calls):len(calls) + len(asked)])
        self.assertEqual(twice[-len(asked) - 1:], once[-len(asked) - 1:])
