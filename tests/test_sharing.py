"""needs, span and share (point 4)."""

from tests.helper import MOST, SessionCase, run


def kinds(*rows):
    """Types, each (cure, wait, moulds, tyres) that come in minute 0."""
    calls = [("begin", 0, 9, 9)]
    for t, (cure, wait, moulds, tyres) in enumerate(rows):
        calls += [("type", cure, wait)] + [("mould", t)] * moulds + [("green", t)] * tyres
    return calls


class SharingCase(SessionCase):
    def asked(self, calls, *rows):
        """After the calls, whose answers are no refusals, the calls of the rows answer as these say."""
        told = run(calls + [row[0] for row in rows])
        for place, call in enumerate(calls):
            self.assertGreaterEqual(told[place][0], 0, call)
        for place, row in enumerate(rows):
            wanted = [row[1]] if isinstance(row[1], int) else list(row[1])
            self.assertEqual(told[len(calls) + place], wanted, row[0])


class NeedsTest(SharingCase):
    def test_none_such(self):
        self.asked(
            [("begin", 0, 1, 1)], (("needs", 0), -2), (("type", 1, 1), 0), (("needs", 0), 1), (("needs", 1), -2),
            (("needs", MOST), -2),
        )

    def test_none_that_wait(self):
        self.asked(kinds((9, 0, 0, 0)), (("needs", 0), 1))

    def test_two_after_one_another_by_each_press(self):
        rows = ((1, 1), (2, 1), (3, 2), (4, 2), (5, 3), (6, 3), (7, 4), (8, 4), (9, 5), (10, 5), (11, -33), (60, -33))
        for tyres, wanted in rows:
            with self.subTest(tyres=tyres):
                self.asked(kinds((10, 10, 0, tyres)), (("needs", 0), wanted))

    def test_all_at_once(self):
        for wait in (0, 9):
            for tyres, wanted in ((1, 1), (2, 2), (3, 3), (4, 4), (5, 5), (6, -33)):
                with self.subTest(wait=wait, tyres=tyres):
                    self.asked(kinds((10, wait, 0, tyres)), (("needs", 0), wanted))

    def test_the_greatest_wait(self):
        self.asked(kinds((500, 10000, 0, 60)), (("needs", 0), 3))
        self.asked(kinds((500, 10000, 0, 42)), (("needs", 0), 2))
        self.asked(kinds((500, 10000, 0, 21)), (("needs", 0), 1))
        self.asked(kinds((500, 10000, 0, 22)), (("needs", 0), 2))

    def test_what_each_has_waited_counts(self):
        calls = kinds((10, 10, 0, 1)) + [("minutes", 5), ("green", 0)]
        self.asked(calls, (("needs", 0), 1), (("minutes", 1), (6, 0)), (("needs", 0), 2))
        self.asked(
            calls, (("minutes", 5), (10, 0)), (("needs", 0), 2), (("minutes", 1), (11, 0)), (("needs", 0), 1),
        )

    def test_a_tyre_in_its_last_minute_of_waiting(self):
        self.asked(
            kinds((4, 6, 0, 2)), (("minutes", 2), (2, 0)), (("needs", 0), 1), (("minutes", 1), (3, 0)),
            (("needs", 0), 2), (("minutes", 3), (6, 0)), (("needs", 0), 2),
            (("minutes", 1), (7, 0)), (("waits", 0), 0), (("needs", 0), 1),
        )

    def test_those_that_wait_of_it_alone(self):
        calls = kinds((10, 10, 1, 8), (10, 0, 1, 1)) + [("press",), ("fit", 0, 0)]
        self.asked(
            calls, (("needs", 0), 4), (("needs", 1), 1), (("load", 0, 0), 10), (("needs", 0), 4),
            (("scrap", 3), 0), (("needs", 0), 3), (("scrap", 7), 0), (("scrap", 1), 0), (("needs", 0), 2),
        )

    def test_without_presses_and_moulds_looked_at(self):
        self.asked(kinds((10, 0, 0, 5)), (("needs", 0), 5), (("press",), 0), (("needs", 0), 5))


class SpanTest(SharingCase):
    def test_none_such(self):
        self.asked(
            [("begin", 0, 1, 1)], (("span", 0, 1), -2), (("type", 1, 1), 0), (("span", 1, 1), -2),
            (("span", MOST, 1), -2), (("span", 0, 1), 0),
        )

    def test_order_of_refusals(self):
        self.asked(
            kinds((4, 9, 0, 1)), (("span", 1, 6), -2), (("span", 1, 0), -2), (("span", MOST, MOST), -2),
            (("span", 0, 6), -22), (("span", 0, 0), -33),
        )

    def test_range(self):
        for tyres in (0, 3):
            with self.subTest(tyres=tyres):
                self.asked(
                    kinds((4, 9, 0, tyres)), (("span", 0, 6), -22), (("span", 0, MOST), -22),
                    (("span", 0, 5), 4 if tyres else 0),
                )

    def test_by_no_press(self):
        self.asked(kinds((4, 9, 0, 0)), (("span", 0, 0), 0))
        self.asked(kinds((4, 9, 5, 1)), (("span", 0, 0), -33))
        self.asked(kinds((4, 9, 0, 60)), (("span", 0, 0), -33))

    def test_none_that_wait(self):
        self.asked(kinds((4, 9, 0, 0)), *[(("span", 0, k), 0) for k in range(6)])

    def test_by_so_many(self):
        self.asked(kinds((4, 9, 0, 7)), *[(("span", 0, k), wanted) for k, wanted in enumerate((-33, 28, 16, 12, 8, 8))])
        self.asked(kinds((500, 9, 0, 60)), (("span", 0, 1), 30000), (("span", 0, 5), 6000), (("span", 0, 4), 7500))

    def test_more_presses_than_tyres(self):
        self.asked(kinds((4, 9, 0, 3)), (("span", 0, 3), 4), (("span", 0, 4), 4), (("span", 0, 5), 4))
        self.asked(kinds((1, 0, 0, 1)), *[(("span", 0, k), 1) for k in range(1, 6)])

    def test_those_that_wait_of_it_and_are_not_too_old(self):
        calls = kinds((4, 9, 1, 5), (7, 9, 1, 2)) + [("press",), ("fit", 0, 0)]
        self.asked(
            calls, (("span", 0, 1), 20), (("span", 1, 1), 14), (("load", 0, 1), 4), (("span", 0, 1), 16),
            (("scrap", 4), 0), (("span", 0, 1), 12), (("minutes", 4), (4, 1)), (("span", 0, 1), 12),
            (("green", 0), 7), (("span", 0, 1), 16), (("minutes", 5), (9, 0)), (("span", 0, 1), 16),
            (("minutes", 1), (10, 0)), (("span", 0, 1), 4), (("span", 1, 1), 0), (("span", 1, 0), 0),
        )

    def test_more_presses_never_take_longer(self):
        for tyres in range(0, 61, 7):
            told = run(kinds((7, 9, 0, tyres)) + [("span", 0, k) for k in range(1, 6)])[-5:]
            self.assertEqual(told, sorted(told, reverse=True))


class ShareTest(SharingCase):
    def test_without_types(self):
        self.asked([("begin", 0, 1, 1)], (("share",), 0), (("press",), 0), (("share",), 0))

    def test_without_presses(self):
        self.asked(kinds((4, 9, 2, 0), (4, 9, 0, 0)), (("share",), (0, 0, 0)))
        self.asked(kinds((4, 9, 2, 1), (4, 9, 0, 0)), (("share",), -33))

    def test_none_that_wait(self):
        self.asked(kinds((4, 9, 2, 0), (4, 9, 1, 0), (1, 0, 0, 0)) + [("press",)] * 5, (("share",), (0, 0, 0, 0)))

    def test_a_type_without_moulds_of_which_some_wait(self):
        self.asked(
            kinds((4, 9, 2, 1), (4, 9, 0, 1)) + [("press",)] * 5, (("share",), -33), (("mould", 1), 2),
            (("share",), (4, 1, 1)),
        )

    def test_a_type_without_moulds_of_which_none_wait(self):
        self.asked(kinds((4, 9, 0, 0), (4, 9, 1, 2)) + [("press",)] * 2, (("share",), (8, 0, 1)))

    def test_fewer_presses_than_types(self):
        self.asked(
            kinds((4, 9, 2, 1), (4, 9, 2, 1)) + [("press",)], (("share",), -33), (("press",), 1),
            (("share",), (4, 1, 1)),
        )

    def test_the_least_time(self):
        # 12, 8 or 4 minutes by 1 to 3 presses, and 12, 6, 6 or 3 by 1 to 4.
        self.asked(kinds((4, 9, 4, 3), (3, 9, 4, 4)) + [("press",)] * 4, (("share",), (8, 2, 2)))
        self.asked(kinds((4, 9, 4, 3), (3, 9, 4, 4)) + [("press",)] * 5, (("share",), (6, 3, 2)))
        self.asked(kinds((4, 9, 4, 3), (3, 9, 4, 4)) + [("press",)] * 3, (("share",), (12, 1, 1)))

    def test_no_more_than_it_has_moulds(self):
        self.asked(kinds((5, 9, 1, 4)) + [("press",)] * 5, (("share",), (20, 1)))
        self.asked(kinds((5, 9, 3, 4)) + [("press",)] * 5, (("share",), (10, 2)))
        self.asked(kinds((5, 9, 4, 4)) + [("press",)] * 5, (("share",), (5, 4)))
        self.asked(kinds((5, 9, 8, 60)) + [("press",)] * 5, (("share",), (60, 5)))

    def test_of_alike_ways_the_first(self):
        # The second type takes 10 in any way, so that two presses for the first, not four, are the fewest.
        self.asked(kinds((5, 9, 4, 4), (10, 9, 1, 1)) + [("press",)] * 5, (("share",), (10, 2, 1)))
        self.asked(kinds((10, 9, 4, 1), (5, 9, 4, 4)) + [("press",)] * 5, (("share",), (10, 1, 2)))
        self.asked(kinds((6, 9, 2, 2), (6, 9, 2, 2)) + [("press",)] * 3, (("share",), (12, 1, 1)))
        self.asked(kinds((6, 9, 3, 3), (6, 9, 3, 3)) + [("press",)] * 5, (("share",), (12, 2, 2)))

    def test_more_presses_than_tyres(self):
        self.asked(kinds((5, 9, 4, 1), (3, 9, 4, 1)) + [("press",)] * 5, (("share",), (5, 1, 1)))

    def test_five_types(self):
        rows = [(3, 9, 1, 1), (9, 9, 1, 1), (2, 9, 2, 1), (7, 9, 2, 1), (1, 9, 2, 1)]
        self.asked(kinds(*rows) + [("press",)] * 5, (("share",), (9, 1, 1, 1, 1, 1)))
        self.asked(
            kinds(*rows) + [("press",)] * 4, (("share",), -33), (("scrap", 2), 0), (("share",), (9, 1, 1, 0, 1, 1)),
        )

    def test_whatever_presses_and_moulds_do(self):
        calls = [("begin", 9, 1, 1), ("type", 4, 40), ("type", 3, 40), ("mould", 0), ("mould", 0), ("mould", 1)]
        calls += [("press",), ("press",), ("green", 0), ("green", 0), ("green", 1), ("fit", 0, 0), ("fit", 1, 1)]
        self.asked(
            calls, (("share",), (8, 1, 1)), (("minutes", 9), (9, 0)), (("load", 0, 0), 13), (("share",), (4, 1, 1)),
            (("minutes", 4), (13, 1)), (("can", 0), -14), (("share",), (4, 1, 1)),
        )

    def test_too_old_ones_are_not_looked_at(self):
        self.asked(
            kinds((4, 2, 0, 2), (5, 9, 1, 1)) + [("press",)], (("share",), -33), (("minutes", 3), (3, 0)),
            (("share",), (5, 0, 1)),
        )

    def test_asking_changes_nothing(self):
        told = [("state",), ("sums",), ("look", 0), ("look", 1), ("mouldat", 0), ("mouldat", 2), ("waits", 0)]
        told += [("tyre", number) for number in range(7)] + [("minutes", 4), ("waits", 0), ("old",)]
        calls = kinds((4, 6, 2, 4), (3, 9, 1, 3)) + [("press",)] * 2 + [("fit", 0, 0), ("auto", 1), ("minutes", 2)]
        asked = [("needs", 0), ("needs", 1), ("needs", 9), ("share",), ("span", 0, 0), ("span", 0, 2), ("span", 0, 6)]
        before = run(calls + told)
        after = run(calls + asked + told)
        self.assertEqual(after[-len(told):], before[-len(told):])
