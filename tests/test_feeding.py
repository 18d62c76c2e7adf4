"""run, stop and thaw."""

import unittest

from lines import FROZEN_IN, MOST, NONE_SUCH, NOT_FED, OUT_OF_RANGE, SO_ALREADY, frozen, last, play, works

ONE = works((10, 50))


class Run(unittest.TestCase):
    def test_answers_what_it_was_fed_with_and_one(self):
        calls = ONE + [("run", 0, 0, 5, 0), ("run", 0, 9, 5, 0), ("run", 0, 9, 1, 200), ("run", 0, 4, 100, 0)]
        self.assertEqual(play(calls)[2:], [[0], [1], [10], [10]])

    def test_none_again_behind_stop(self):
        self.assertEqual(play(ONE + [("run", 0, 7, 5, 0), ("stop", 0), ("run", 0, 6, 5, 0)])[2:], [[0], [7], [0]])

    def test_edges(self):
        for numbers in ((0, 1, 0), (9, 1, 0), (0, 100, 0), (0, 1, 200), (9, 100, 200)):
            with self.subTest(numbers=numbers):
                self.assertEqual(last(ONE + [("run", 0) + numbers]), [0])

    def test_out_of_range(self):
        for numbers in ((10, 5, 0), (0, 0, 0), (0, 101, 0), (0, 5, 201), (MOST, 5, 0), (0, MOST, 0), (0, 5, MOST)):
            with self.subTest(numbers=numbers):
                self.assertEqual(last(ONE + [("run", 0) + numbers]), OUT_OF_RANGE)

    def test_frozen_in(self):
        self.assertEqual(last(frozen() + [("run", 0, 1, 50, 0)]), FROZEN_IN)
        self.assertEqual(last(frozen() + [("stop", 0), ("run", 0, 1, 50, 0)]), FROZEN_IN)

    def test_order_of_refusals(self):
        self.assertEqual(last(frozen() + [("run", 1, 10, 0, 201)]), NONE_SUCH)
        for numbers in ((10, 50, 0), (0, 0, 0), (0, 50, 201)):
            with self.subTest(numbers=numbers):
                self.assertEqual(last(frozen() + [("run", 0) + numbers]), OUT_OF_RANGE)

    def test_refused_changes_nothing(self):
        before = ONE + [("run", 0, 3, 7, 50), ("minutes", 1)]
        after = [("minutes", 2), ("stop", 0)]
        for numbers in ((0, 10, 9, 80), (0, 4, 101, 80), (0, 4, 9, 201), (1, 4, 9, 80)):
            with self.subTest(numbers=numbers):
                self.assertEqual(play(before + [("run",) + numbers] + after)[5:], [[3, 11, 16500], [3]])

    def test_refused_as_frozen_in_changes_nothing(self):
        self.assertEqual(play(frozen() + [("run", 0, 1, 50, 0), ("stop", 0), ("thaw", 0)])[-2:], [[3], [20]])

    def test_from_now_on(self):
        calls = works((10, 50), (10, 50)) + [
            ("run", 0, 1, 10, 0), ("minutes", 1), ("run", 0, 1, 4, 50), ("minutes", 1), ("run", 0, 1, 6, 100),
            ("minutes", 1),
        ]
        self.assertEqual(play(calls)[4::2], [[1, 0, 0], [2, 4, 6000], [3, 6, 12000]])


class Stop(unittest.TestCase):
    def test_answers_the_flavour(self):
        for flavour in (0, 5, 9):
            with self.subTest(flavour=flavour):
                self.assertEqual(last(ONE + [("run", 0, flavour, 5, 0), ("stop", 0)]), [flavour])

    def test_not_fed(self):
        self.assertEqual(last(ONE + [("stop", 0)]), NOT_FED)
        self.assertEqual(last(ONE + [("run", 0, 1, 5, 0), ("stop", 0), ("stop", 0)]), NOT_FED)
        self.assertEqual(last(frozen() + [("thaw", 0), ("stop", 0)]), NOT_FED)

    def test_no_such_freezer(self):
        for number in (1, 4, MOST):
            with self.subTest(number=number):
                self.assertEqual(last(ONE + [("run", 0, 1, 5, 0), ("stop", number)]), NONE_SUCH)

    def test_nothing_more_comes(self):
        calls = ONE + [("run", 0, 1, 20, 0), ("minutes", 1), ("stop", 0), ("minutes", 5)]
        self.assertEqual(play(calls)[3:], [[1, 10, 10000], [1], [6, 0, 0]])

    def test_the_barrel_stays(self):
        calls = ONE + [("run", 0, 1, 8, 0), ("minutes", 1), ("stop", 0), ("minutes", 9), ("run", 0, 2, 5, 0),
                       ("minutes", 1)]
        self.assertEqual(last(calls), [11, 3, 3000])

    def test_only_this_freezer(self):
        calls = works((10, 50), (10, 50)) + [("run", 0, 1, 20, 0), ("run", 1, 2, 30, 0), ("stop", 0), ("minutes", 1)]
        self.assertEqual(last(calls), [1, 20, 20000])

    def test_a_frozen_one_is_stopped_and_stays_frozen(self):
        self.assertEqual(play(frozen() + [("stop", 0), ("stop", 0), ("minutes", 1), ("thaw", 0)])[-4:],
                         [[3], NOT_FED, [3, 0, 0], [20]])


class Thaw(unittest.TestCase):
    def test_answers_what_is_in_it(self):
        self.assertEqual(last(frozen(0) + [("thaw", 0)]), [0])
        self.assertEqual(last(frozen(20) + [("thaw", 0)]), [20])
        self.assertEqual(last(frozen(100) + [("thaw", 0)]), [100])

    def test_answers_all_parts(self):
        calls = works((30, 1000)) + [
            ("run", 0, 1, 11, 0), ("minutes", 1), ("run", 0, 2, 12, 0), ("minutes", 1), ("run", 0, 1, 5, 0),
            ("minutes", 1), ("thaw", 0),
        ]
        self.assertEqual(last(calls), [23])

    def test_not_frozen_in(self):
        self.assertEqual(last(ONE + [("thaw", 0)]), SO_ALREADY)
        self.assertEqual(last(ONE + [("run", 0, 1, 5, 0), ("minutes", 1), ("thaw", 0)]), SO_ALREADY)
        self.assertEqual(last(frozen() + [("thaw", 0), ("thaw", 0)]), SO_ALREADY)

    def test_too_cold_but_no_minute_went_by(self):
        self.assertEqual(last(works((10, 1000)) + [("run", 0, 1, 1, 0), ("thaw", 0)]), SO_ALREADY)

    def test_no_such_freezer(self):
        for number in (1, 4, MOST):
            with self.subTest(number=number):
                self.assertEqual(last(frozen() + [("thaw", number)]), NONE_SUCH)

    def test_not_fed_any_more(self):
        self.assertEqual(play(frozen() + [("thaw", 0), ("minutes", 3), ("stop", 0), ("run", 0, 1, 50, 0)])[-3:],
                         [[5, 0, 0], NOT_FED, [0]])

    def test_what_is_in_it_comes_first_afterwards(self):
        # 20 of flavour 3 were in it: of 7 and 13 kilograms at 900 grams a litre two roundings tell the two flavours.
        calls = works((20, 1000), density=900) + [
            ("run", 0, 3, 20, 0), ("minutes", 1), ("run", 0, 3, 1, 0), ("minutes", 1), ("thaw", 0),
            ("run", 0, 4, 13, 0), ("minutes", 1), ("run", 0, 4, 20, 0), ("minutes", 1),
        ]
        given = play(calls)
        self.assertEqual(given[6], [20])
        self.assertEqual(given[8], [3, 13, 13000000 // 900])
        self.assertEqual(given[10], [4, 20, 7000000 // 900 + 13000000 // 900])
        self.assertNotEqual(given[10][2], 20000000 // 900)

    def test_refused_changes_nothing(self):
        calls = ONE + [("run", 0, 6, 20, 0), ("thaw", 0), ("minutes", 1), ("stop", 0)]
        self.assertEqual(play(calls)[3:], [SO_ALREADY, [1, 10, 10000], [6]])


if __name__ == "__main__":
    unittest.main()
