"""What is kept of a tyre: in which press, in which mould, by which bladder, and in which minute it was cured."""

import unittest

from tyrepresses.adding import add_green, add_kind, add_mould, add_press, begin
from tyrepresses.handling import fit, load, minutes, renew_bladder, scrap, set_auto
from tyrepresses.plant import Plant


def record(tyre):
    return (tyre.kind, tyre.came, tyre.stage, tyre.press, tyre.mould, tyre.bladder, tyre.cured)


class RecordsTest(unittest.TestCase):
    def setUp(self):
        self.plant = Plant()
        begin(self.plant, 2, 5, 5)
        add_kind(self.plant, 9, 9)
        add_kind(self.plant, 3, 40)
        for kind in (0, 1, 1):
            add_mould(self.plant, kind)
        add_press(self.plant)
        add_press(self.plant)
        fit(self.plant, 1, 2)
        minutes(self.plant, 2)
        for number in range(3):
            add_green(self.plant, 1)

    def test_one_that_waits(self):
        self.assertEqual(record(self.plant.tyres[0]), (1, 2, 0, 0, 0, 0, 0))

    def test_one_in_a_press_and_then_cured(self):
        load(self.plant, 1, 0)
        self.assertEqual(record(self.plant.tyres[0]), (1, 2, 1, 1, 2, 0, 0))
        minutes(self.plant, 3)
        self.assertEqual(record(self.plant.tyres[0]), (1, 2, 2, 1, 2, 0, 5))

    def test_the_minute_is_that_in_which_it_was_cured(self):
        set_auto(self.plant, 1)
        minutes(self.plant, 100)
        self.assertEqual([tyre.cured for tyre in self.plant.tyres], [5, 8, 11])

    def test_another_mould_and_bladder_later(self):
        load(self.plant, 1, 0)
        minutes(self.plant, 3)
        renew_bladder(self.plant, 1)
        minutes(self.plant, 2)
        fit(self.plant, 1, 1)
        minutes(self.plant, 2)
        load(self.plant, 1, 1)
        minutes(self.plant, 3)
        scrap(self.plant, 0)
        self.assertEqual(record(self.plant.tyres[0]), (1, 2, 3, 1, 2, 0, 5))
        self.assertEqual(record(self.plant.tyres[1]), (1, 2, 2, 1, 1, 1, 12))
