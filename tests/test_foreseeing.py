"""cured and ahead (point 3): what is so later, if nothing's done."""

from tests.helper import MOST, SessionCase, run


def plant(change=0, bladder=9, mould=9, cure=3, wait=50, presses=1, tyres=0):
    """One type, and presses that each have a mould of it; a change of theirs is still to be done."""
    rows = [(("begin", change, bladder, mould), 0), (("type", cure, wait), 0)]
    for number in range(presses):
        rows += [(("mould", 0), number), (("press",), number), (("fit", number, number), 0)]
    return rows + [(("green", 0), number) for number in range(tyres)]


class CuredTest(SessionCase):
    def test_none_such(self):
        self.session(
            (("begin", 0, 1, 1), 0), (("cured", 0), -2), (("type", 1, 1), 0), (("green", 0), 0),
            (("cured", 1), -2), (("cured", MOST), -2), (("cured", 0), -33),
        )

    def test_in_a_press(self):
        for auto in (0, 1):
            with self.subTest(auto=auto):
                self.session(
                    *plant(tyres=1), (("load", 0, 0), 3), (("auto", auto), 0), (("cured", 0), 3),
                    (("minutes", 1), (1, 0)), (("cured", 0), 2), (("minutes", 1), (2, 0)), (("cured", 0), 1),
                    (("minutes", 1), (3, 1)), (("cured", 0), 0), (("minutes", 9), (12, 0)), (("cured", 0), 0),
                )

    def test_one_that_waits_is_loaded_by_itself_or_never(self):
        self.session(
            *plant(tyres=1), (("cured", 0), -33), (("auto", 1), 0), (("cured", 0), 3), (("auto", 0), 1),
            (("cured", 0), -33),
        )

    def test_one_behind_another(self):
        self.session(
            *plant(presses=2, tyres=5), (("auto", 1), 0),
            *[(("cured", number), 3 + 3 * (number // 2)) for number in range(5)],
            (("minutes", 4), (4, 2)), (("cured", 1), 0), (("cured", 2), 2), (("cured", 3), 2), (("cured", 4), 5),
        )

    def test_behind_one_that_was_loaded_by_hand(self):
        self.session(
            *plant(tyres=3), (("load", 0, 2), 3), (("minutes", 1), (1, 0)), (("cured", 0), -33), (("auto", 1), 0),
            (("cured", 2), 2), (("cured", 0), 5), (("cured", 1), 8),
        )

    def test_after_a_change(self):
        self.session(
            *plant(change=7, tyres=1), (("auto", 1), 0), (("cured", 0), 10),
            (("minutes", 7), (7, 0)), (("cured", 0), 3),
        )

    def test_too_old_ones_never(self):
        self.session(
            *plant(wait=2, tyres=1), (("minutes", 3), (3, 0)), (("auto", 1), 0), (("cured", 0), -33),
            (("green", 0), 1), (("cured", 1), 3),
        )

    def test_the_last_minute_of_waiting(self):
        self.session(*plant(wait=3, tyres=2), (("auto", 1), 0), (("cured", 0), 3), (("cured", 1), 6))
        self.session(*plant(wait=2, tyres=2), (("auto", 1), 0), (("cured", 0), 3), (("cured", 1), -33))

    def test_a_bladders_and_a_moulds_last_cure(self):
        for bladder, mould in ((2, 9), (9, 2)):
            with self.subTest(bladder=bladder, mould=mould):
                self.session(
                    *plant(bladder=bladder, mould=mould, tyres=3), (("auto", 1), 0),
                    (("cured", 0), 3), (("cured", 1), 6), (("cured", 2), -33),
                )

    def test_one_in_a_press_that_no_press_is_loaded_after(self):
        self.session(
            *plant(bladder=1, mould=1, tyres=2), (("auto", 1), 0), (("minutes", 1), (1, 0)),
            (("cured", 0), 2), (("cured", 1), -33),
        )

    def test_of_a_type_that_no_press_has(self):
        self.session(
            *plant(), (("type", 1, 1), 1), (("green", 1), 0), (("auto", 1), 0), (("cured", 0), -33), (("mould", 1), 1),
            (("cured", 0), -33), (("fit", 0, 1), 1), (("cured", 0), 1),
        )

    def test_scrapped_ones_never(self):
        self.session(
            *plant(tyres=2), (("auto", 1), 0), (("scrap", 1), 0), (("cured", 1), -33), (("minutes", 3), (3, 1)),
            (("cured", 0), 0), (("scrap", 0), 2), (("cured", 0), -33), (("minutes", 9), (12, 0)), (("cured", 0), -33),
        )

    def test_a_thousand_minutes_and_one_more(self):
        self.session(
            *plant(change=0, cure=500, wait=10000, tyres=3), (("auto", 1), 0), (("cured", 0), 500),
            (("cured", 1), 1000), (("cured", 2), -33), (("minutes", 499), (499, 0)), (("cured", 2), -33),
            (("minutes", 1), (500, 1)), (("cured", 2), 1000),
        )
        self.session(
            *plant(change=1, cure=500, wait=10000, tyres=2), (("auto", 1), 0), (("cured", 0), 501),
            (("cured", 1), -33), (("minutes", 1), (1, 0)), (("cured", 1), 1000), (("cured", 0), 500),
        )

    def test_the_longest_cure_and_change(self):
        self.session(
            *plant(change=500, cure=500, wait=500, tyres=1), (("auto", 1), 0), (("cured", 0), 1000),
            (("minutes", 500), (500, 0)), (("cured", 0), 500), (("minutes", 499), (999, 0)), (("cured", 0), 1),
            (("minutes", 1), (1000, 1)), (("cured", 0), 0),
        )

    def test_asking_changes_nothing(self):
        asked = [("cured", number) for number in range(6)]
        told = [("state",), ("sums",), ("look", 0), ("look", 1), ("mouldat", 0), ("mouldat", 1), ("old",)]
        told += [("tyre", number) for number in range(6)] + [("waits", 0), ("minutes", 4)]
        calls = [row[0] for row in plant(change=2, bladder=2, presses=2, wait=6, tyres=6)] + [("auto", 1)]
        for gone in ([], [("minutes", 1)], [("minutes", 4)], [("minutes", 8)], [("minutes", 20)]):
            with self.subTest(gone=gone):
                before = run(calls + gone + told)
                after = run(calls + gone + asked + told)
                self.assertEqual(after[-len(told):], before[-len(told):])


class AheadTest(SessionCase):
    def test_range(self):
        self.session(
            (("begin", 0, 1, 1), 0), (("ahead", 0), -22), (("ahead", 501), -22), (("ahead", MOST), -22),
            (("ahead", 1), (0, 0, 0)), (("ahead", 500), (0, 0, 0)),
        )

    def test_how_many_more_are_cured(self):
        self.session(
            *plant(presses=2, tyres=5), (("auto", 1), 0), (("ahead", 2), (0, 0, 0)), (("ahead", 3), (2, 0, 2)),
            (("ahead", 5), (2, 0, 0)), (("ahead", 6), (4, 0, 2)), (("ahead", 7), (4, 0, 1)), (("ahead", 9), (5, 0, 2)),
            (("minutes", 3), (3, 2)), (("ahead", 3), (2, 0, 2)), (("ahead", 500), (3, 0, 2)),
            (("scrap", 0), 2), (("ahead", 500), (3, 0, 2)),
        )

    def test_not_loaded_by_themselves(self):
        self.session(
            *plant(presses=2, wait=4, tyres=3), (("load", 1, 1), 3), (("ahead", 3), (1, 0, 2)),
            (("ahead", 2), (0, 0, 1)), (("ahead", 4), (1, 0, 2)), (("ahead", 5), (1, 2, 2)),
            (("auto", 1), 0), (("ahead", 5), (2, 0, 1)), (("auto", 0), 1), (("ahead", 5), (1, 2, 2)),
        )

    def test_too_old_then(self):
        self.session(
            *plant(wait=2, tyres=3), (("auto", 1), 0), (("ahead", 1), (0, 0, 0)), (("ahead", 2), (0, 0, 0)),
            (("ahead", 3), (1, 2, 1)), (("minutes", 3), (3, 1)), (("old",), (2, 1, 2)), (("ahead", 1), (0, 2, 1)),
            (("scrap", 1), 0), (("ahead", 1), (0, 1, 1)),
        )

    def test_idle_after_a_change(self):
        self.session(
            *plant(change=4, presses=3), (("press",), 3), (("ahead", 3), (0, 0, 1)), (("ahead", 4), (0, 0, 4)),
            (("minutes", 4), (4, 0)), (("ahead", 1), (0, 0, 4)),
        )

    def test_as_minutes_and_the_calls_that_tell_what_is_so_then(self):
        for auto in (0, 1):
            for change in (0, 3):
                calls = [row[0] for row in plant(change=change, bladder=3, presses=2, cure=4, wait=9, tyres=9)]
                calls += [("minutes", 3), ("auto", auto), ("load", 0, 8), ("minutes", 1)]
                for n in (1, 2, 3, 4, 5, 8, 9, 13, 40, 500):
                    with self.subTest(auto=auto, change=change, n=n):
                        told = run(calls + [("ahead", n), ("minutes", n), ("old",), ("look", 0), ("look", 1)])
                        later = told[len(calls):]
                        idle = [later[3][0], later[4][0]].count(0)
                        self.assertEqual(later[0], [later[1][1], later[2][0], idle])

    def test_asking_changes_nothing(self):
        told = [("state",), ("sums",), ("look", 0), ("look", 1), ("mouldat", 0), ("mouldat", 1), ("old",), ("auto", 1)]
        told += [("tyre", number) for number in range(6)] + [("waits", 0), ("by", 0), ("within", 0, 0), ("minutes", 4)]
        calls = [row[0] for row in plant(change=2, bladder=2, presses=2, wait=6, tyres=6)] + [("auto", 1)]
        for gone in (1, 4, 8, 20):
            for n in (0, 1, 7, 500, 501):
                with self.subTest(gone=gone, n=n):
                    before = run(calls + [("minutes", gone)] + told)
                    after = run(calls + [("minutes", gone), ("ahead", n)] + told)
                    self.assertEqual(after[-len(told):], before[-len(told):])
