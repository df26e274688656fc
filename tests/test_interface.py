"""How calls and answers lie in their lists, and that nothing is kept or changed."""

import time
import unittest

from tyrepresses.curing import answers
from tests.helper import flatten, run

SESSION = [
    ("begin", 1, 5, 5), ("type", 3, 20), ("mould", 0), ("press",), ("fit", 0, 0), ("green", 0), ("green", 0),
    ("auto", 1), ("waits", 0), ("minutes", 4), ("can", 0), ("waits", 0), ("scrap", 0), ("scrap", 0), ("waits", 9),
    ("old",), ("cured", 0), ("cured", 1), ("ahead", 3), ("needs", 0), ("span", 0, 2), ("share",), ("by", 0),
    ("within", 0, 0), ("look", 0), ("mouldat", 0), ("tyre", 0), ("tyre", 1), ("sums",), ("state",), ("bladder", 0),
    ("load", 0, 1), ("clean", 0), ("green", 0), ("minutes", 500), ("old",), ("by", 0), ("within", 0, 1), ("state",),
]


class InterfaceTest(unittest.TestCase):
    def test_calls_and_answers_by_number(self):
        calls = [
            0, 1, 5, 5, 1, 3, 20, 2, 0, 3, 5, 0, 0, 4, 0, 4, 0, 9, 1, 13, 0, 10, 4, 12, 0, 13, 0, 11, 0, 11, 0, 7, 0,
            6, 0, 10, 1, 8, 0, 1, 13, 9,
        ]
        self.assertEqual(answers(calls), [
            1, 0, 1, 0, 1, 0, 1, 0, 1, 0, 1, 0, 1, 1, 1, 0, 3, 2, 0, 1, 2, 4, 1, 1, 0, 2, 1, 1, 1, 2, 1, -17, 1, -16,
            1, 1, 2, 5, 0, 1, 8, 1, -2,
        ])

    def test_the_calls_that_ask_by_number(self):
        begin = [0, 1, 5, 5, 1, 3, 20, 2, 0, 3, 5, 0, 0, 4, 0, 4, 0, 9, 1, 10, 5]
        told = len(answers(begin))
        # Minute 5: tyre 0 was cured in minute 4, tyre 1 is in the press since then.
        for calls, wanted in (
            ([14], [1, 0]), ([15, 0], [1, 0]), ([15, 1], [1, 2]), ([15, 2], [1, -2]), ([16, 2], [3, 1, 0, 1]),
            ([17, 0], [1, 1]), ([18, 0, 2], [1, 0]), ([18, 0, 6], [1, -22]), ([19], [2, 0, 0]), ([20, 0], [2, 1, 0]),
            ([21, 0, 0], [2, 1, 0]), ([21, 0, 4294967295], [1, 0]), ([22, 0], [6, 2, 1, 1, 0, 2, 2]),
            ([23, 0], [3, 0, 1, 1]), ([24, 0], [7, 0, 0, 2, 0, 0, 0, 4]), ([24, 1], [7, 0, 0, 1, 0, 0, 0, 0]),
            ([25], [5, 0, 0, 1, 1, 0]), ([26], [6, 5, 1, 1, 1, 2, 1]), ([10, 500, 14], [2, 505, 1, 1, 0]),
            ([4, 0, 9, 0, 10, 21, 14], [1, 2, 1, 1, 2, 26, 1, 2, 1, 2]),
        ):
            with self.subTest(calls=calls):
                self.assertEqual(answers(begin + calls)[told:], wanted)

    def test_one_call(self):
        self.assertEqual(answers([3]), [1, -11])
        self.assertEqual(answers([0, 0, 1, 1]), [1, 0])
        self.assertEqual(answers([0, 501, 1, 1]), [1, -22])

    def test_the_list_handed_in_is_the_same_afterwards(self):
        calls = flatten(SESSION)
        before = list(calls)
        answers(calls)
        self.assertEqual(calls, before)

    def test_the_list_handed_in_is_only_read(self):
        class ReadOnly(list):
            def refuse(self, *given):
                raise AssertionError("the list handed in is changed")

            append = extend = insert = pop = remove = clear = sort = reverse = refuse
            __setitem__ = __delitem__ = __iadd__ = __imul__ = refuse

        self.assertEqual(answers(ReadOnly(flatten(SESSION))), answers(flatten(SESSION)))

    def test_nothing_is_kept_from_one_time_to_the_next(self):
        calls = flatten(SESSION)
        first = answers(calls)
        self.assertEqual(answers(calls), first)
        self.assertEqual(answers([3, 13, 0]), [1, -11, 1, -11])
        first.append(7)
        self.assertEqual(answers(calls), first[:-1])

    def test_whole_numbers_in_a_list(self):
        told = answers(flatten(SESSION + [("auto", 0), ("auto", 1)]))
        self.assertIs(type(told), list)
        for number in told:
            self.assertIs(type(number), int)

    def test_four_hundred_long_calls_end_soon(self):
        calls = [("begin", 0, 1000, 1000), ("auto", 1), ("type", 500, 10000)]
        calls += [("mould", 0), ("press",)] * 5 + [("fit", number, number) for number in range(5)]
        calls += [("green", 0)] * 60
        calls += [("minutes", 500)] * (400 - len(calls))
        before = time.monotonic()
        told = answers(flatten(calls))
        self.assertLess(time.monotonic() - before, 5)
        self.assertEqual(told[-3:], [2, 500 * (400 - 78), 0])

    def test_four_hundred_calls_that_look_far_ahead_end_soon(self):
        begin = [("begin", 0, 1000, 1000), ("auto", 1)] + [("type", 16 + t, 10000) for t in range(5)]
        begin += [("mould", number % 5) for number in range(8)] + [("press",)] * 5
        begin += [("fit", number, number) for number in range(5)] + [("green", number % 5) for number in range(60)]
        for call, wanted in (
            (("cured", 59), [240]), (("ahead", 500), [60, 0, 5]), (("share",), [240, 1, 1, 1, 1, 1]),
            (("needs", 4), [1]),
        ):
            with self.subTest(call=call):
                before = time.monotonic()
                told = run(begin + [call] * (400 - len(begin)))
                self.assertLess(time.monotonic() - before, 10)
                self.assertEqual(told[len(begin):], [wanted] * (400 - len(begin)))
