"""minutes (point 2, and how a minute goes)."""

from tests.helper import MOST, SessionCase, run


class MinutesTest(SessionCase):
    def plant(self, change=0, bladder=9, mould=9, cure=3, wait=50, presses=2):
        rows = [(("begin", change, bladder, mould), 0), (("type", cure, wait), 0)]
        for number in range(presses):
            rows += [(("mould", 0), number), (("press",), number), (("fit", number, number), 0)]
        return rows

    def test_range(self):
        self.session(
            *self.plant(), (("minutes", 0), -22), (("minutes", 501), -22), (("minutes", MOST), -22),
            (("minutes", 1), (1, 0)), (("minutes", 500), (501, 0)),
        )

    def test_refused_ones_change_nothing(self):
        self.session(
            *self.plant(), (("green", 0), 0), (("auto", 1), 0), (("minutes", 0), -22), (("minutes", 501), -22),
            (("can", 0), 0), (("waits", 0), (1, 0)), (("minutes", 3), (3, 1)),
        )

    def test_two_presses_and_one_tyre(self):
        self.session(
            *self.plant(), (("green", 0), 0), (("auto", 1), 0), (("minutes", 1), (1, 0)), (("can", 0), -16),
            (("can", 1), 0), (("minutes", 2), (3, 1)), (("bladder", 1), -17), (("bladder", 0), 1),
        )

    def test_the_first_press_takes_the_least_number(self):
        self.session(
            *self.plant(), (("green", 0), 0), (("green", 0), 1), (("green", 0), 2), (("scrap", 0), 0), (("auto", 1), 0),
            (("minutes", 1), (1, 0)), (("waits", 0), 0), (("minutes", 2), (3, 2)), (("minutes", 9), (12, 0)),
        )

    def test_presses_share_a_queue_in_order(self):
        self.session(
            *self.plant(cure=4), (("green", 0), 0), (("green", 0), 1), (("green", 0), 2), (("load", 1, 2), 4),
            (("minutes", 1), (1, 0)), (("auto", 1), 0), (("minutes", 2), (3, 0)), (("waits", 0), (1, 1)),
            (("minutes", 1), (4, 1)), (("can", 1), 0), (("waits", 0), (1, 1)),
            (("minutes", 1), (5, 1)), (("can", 0), 0), (("can", 1), -16), (("minutes", 2), (7, 0)),
            (("minutes", 1), (8, 1)),
        )

    def test_each_press_takes_its_moulds_type(self):
        self.session(
            (("begin", 0, 9, 9), 0), (("type", 2, 9), 0), (("type", 5, 9), 1), (("mould", 1), 0), (("mould", 0), 1),
            (("press",), 0), (("press",), 1), (("fit", 0, 0), 0), (("fit", 1, 1), 0),
            (("green", 0), 0), (("green", 0), 1), (("green", 1), 2), (("auto", 1), 0),
            (("minutes", 1), (1, 0)), (("waits", 0), (1, 1)), (("waits", 1), 0),
            (("minutes", 3), (4, 2)), (("minutes", 1), (5, 1)),
        )

    def test_too_old_ones_are_not_loaded(self):
        self.session(
            *self.plant(cure=3, wait=5, presses=1), (("green", 0), 0), (("green", 0), 1), (("green", 0), 2),
            (("auto", 1), 0), (("minutes", 500), (500, 2)), (("waits", 0), 0), (("load", 0, 2), -75),
        )

    def test_the_last_minute_of_waiting_is_in_time(self):
        self.session(
            *self.plant(cure=3, wait=3, presses=1), (("green", 0), 0), (("green", 0), 1), (("auto", 1), 0),
            (("minutes", 6), (6, 2)),
        )
        self.session(
            *self.plant(cure=3, wait=2, presses=1), (("green", 0), 0), (("green", 0), 1), (("auto", 1), 0),
            (("minutes", 6), (6, 1)), (("waits", 0), 0),
        )

    def test_an_older_one_that_is_too_old_is_passed_over(self):
        self.session(
            *self.plant(wait=2, presses=1), (("green", 0), 0), (("minutes", 3), (3, 0)), (("green", 0), 1),
            (("auto", 1), 0), (("minutes", 1), (4, 0)), (("scrap", 1), -16), (("scrap", 0), 0),
        )

    def test_a_bladders_last_cure(self):
        self.session(
            *self.plant(bladder=2, presses=1), (("green", 0), 0), (("green", 0), 1), (("green", 0), 2),
            (("auto", 1), 0), (("minutes", 40), (40, 2)), (("can", 0), -14), (("waits", 0), (1, 2)),
            (("bladder", 0), 2), (("can", 0), 0), (("minutes", 3), (43, 1)),
        )

    def test_a_mould_that_is_dirty_just_when_it_is_idle(self):
        self.session(
            *self.plant(mould=2, presses=1), (("green", 0), 0), (("green", 0), 1), (("green", 0), 2),
            (("mould", 0), 1), (("auto", 1), 0),
            (("minutes", 5), (5, 1)), (("can", 0), -16), (("minutes", 1), (6, 1)), (("can", 0), -13),
            (("minutes", 9), (15, 0)), (("waits", 0), (1, 2)),
            (("fit", 0, 1), 1), (("clean", 0), 2), (("minutes", 3), (18, 1)),
        )

    def test_a_press_is_loaded_in_the_minute_in_which_it_is_done(self):
        self.session(
            *self.plant(presses=1), (("green", 0), 0), (("green", 0), 1), (("load", 0, 0), 3), (("minutes", 2), (2, 0)),
            (("load", 0, 1), -16), (("minutes", 1), (3, 1)), (("load", 0, 1), 6), (("minutes", 2), (5, 0)),
            (("minutes", 1), (6, 1)),
        )
        self.session(
            *self.plant(presses=1), (("green", 0), 0), (("green", 0), 1), (("green", 0), 2), (("auto", 1), 0),
            (("minutes", 3), (3, 1)), (("can", 0), 0), (("waits", 0), (2, 1, 2)),
            (("minutes", 3), (6, 1)), (("minutes", 2), (8, 0)), (("minutes", 1), (9, 1)),
        )

    def test_a_press_is_loaded_when_its_change_is_done(self):
        self.session(
            *self.plant(change=4, presses=1), (("green", 0), 0), (("auto", 1), 0), (("minutes", 4), (4, 0)),
            (("can", 0), 0), (("waits", 0), (1, 0)), (("minutes", 2), (6, 0)), (("minutes", 1), (7, 1)),
        )

    def test_presses_done_in_one_minute(self):
        self.session(
            *self.plant(presses=5), *[(("green", 0), number) for number in range(12)], (("auto", 1), 0),
            (("minutes", 2), (2, 0)), (("minutes", 1), (3, 5)), (("minutes", 3), (6, 5)), (("minutes", 3), (9, 2)),
            (("minutes", 500), (509, 0)),
        )

    def test_without_presses(self):
        self.session((("begin", 0, 1, 1), 0), (("auto", 1), 0), (("minutes", 500), (500, 0)))

    def test_whatever_pieces_minutes_come_in_it_is_the_same(self):
        begin = [("begin", 3, 4, 5), ("type", 7, 40), ("type", 4, 25)]
        begin += [("mould", 0), ("mould", 1), ("mould", 0), ("press",), ("press",), ("press",)]
        begin += [("green", number % 2) for number in range(30)]
        begin += [("fit", 0, 0), ("minutes", 1), ("fit", 1, 1), ("minutes", 1), ("fit", 2, 2), ("auto", 1)]
        end = [("can", 0), ("can", 1), ("can", 2), ("waits", 0), ("waits", 1), ("bladder", 0), ("bladder", 1)]
        end += [("bladder", 2), ("scrap", 0), ("scrap", 9), ("scrap", 12), ("scrap", 29), ("minutes", 1)]
        for many in (1, 2, 7, 11, 12, 24, 25, 36, 60):
            one = run(begin + [("minutes", many)] + end)
            ones = run(begin + [("minutes", 1)] * many + end)
            with self.subTest(many=many):
                self.assertEqual(one[-len(end):], ones[-len(end):])
                pieces = ones[len(begin):-len(end)]
                self.assertEqual(one[len(begin)], [pieces[-1][0], sum(piece[1] for piece in pieces)])

    def test_no_bladder_and_no_mould_cures_oftener_than_it_may(self):
        for bladder, mould, most in ((1, 9, 1), (9, 1, 1), (3, 4, 3), (4, 3, 3), (5, 5, 5)):
            with self.subTest(bladder=bladder, mould=mould):
                why = -14 if bladder <= mould else -13
                self.session(
                    *self.plant(bladder=bladder, mould=mould, cure=1, presses=1),
                    *[(("green", 0), number) for number in range(12)], (("auto", 1), 0),
                    (("minutes", 50), (50, most)), (("can", 0), why),
                )
