"""flushed, until and ahead."""

import unittest

from lines import CANNOT_BE, MOST, NONE_SUCH, NOT_FED, OUT_OF_RANGE, frozen, last, play, works


def run_for(*steps):
    """Freezer 0 is run with each (flavour, rate, air) for so many minutes."""
    calls = []
    for flavour, rate, air, how_many in steps:
        calls.append(("run", 0, flavour, rate, air))
        if how_many:
            calls.append(("minutes", how_many))
    return calls


class Flushed(unittest.TestCase):
    def asked(self, holds, *steps):
        """What flushed answers of a freezer that holds so much, behind these steps."""
        calls = works((holds, 50)) + run_for(*steps) + [("flushed", 0)]
        told = last(calls)
        if told[0] >= 0:
            self.check_just_so_many(calls, told[0])
        return told

    def check_just_so_many(self, calls, told):
        for how_many in (told - 1, told):
            if how_many > 0:
                given = play(calls + [("minutes", how_many), ("look", 0), ("barrel", 0)])
                flavour = given[-2][0] - 1
                others = [part for part in given[-1][1::2] if part != flavour]
                self.assertEqual(others == [], how_many == told)

    def test_the_old_flavour_is_drawn_through(self):
        self.assertEqual(self.asked(10, (1, 5, 0, 4), (2, 5, 0, 0)), [2])
        self.assertEqual(self.asked(10, (1, 5, 0, 4), (2, 3, 0, 0)), [4])
        self.assertEqual(self.asked(9, (1, 5, 0, 4), (2, 3, 0, 0)), [3])
        self.assertEqual(self.asked(10, (1, 5, 0, 4), (2, 9, 0, 0)), [2])
        self.assertEqual(self.asked(10, (1, 5, 0, 4), (2, 10, 0, 0)), [1])

    def test_so_it_is_already(self):
        self.assertEqual(self.asked(10, (1, 5, 0, 0)), [0])
        self.assertEqual(self.asked(10, (1, 5, 0, 1)), [0])
        self.assertEqual(self.asked(10, (1, 5, 0, 9)), [0])
        self.assertEqual(self.asked(10, (1, 5, 0, 9), (1, 2, 7, 0)), [0])
        self.assertEqual(self.asked(10, (1, 5, 0, 9), (2, 5, 0, 2)), [0])

    def test_one_minute_before(self):
        self.assertEqual(self.asked(10, (1, 5, 0, 9), (2, 5, 0, 1)), [1])

    def test_a_barrel_that_is_not_full(self):
        # Of 10 kilograms 4 are in it: the old ones go only once 10 new ones are behind them.
        self.assertEqual(self.asked(10, (1, 4, 0, 1), (2, 5, 0, 0)), [2])
        self.assertEqual(self.asked(10, (1, 4, 0, 1), (2, 3, 0, 0)), [4])

    def test_a_barrel_filled_just_now(self):
        self.assertEqual(self.asked(10, (1, 5, 0, 2), (2, 5, 0, 0)), [2])
        self.assertEqual(self.asked(10, (1, 4, 0, 1), (2, 6, 0, 1)), [1])
        self.assertEqual(self.asked(10, (1, 4, 0, 1), (2, 3, 0, 2)), [2])

    def test_three_flavours_in_one_barrel(self):
        self.assertEqual(self.asked(9, (1, 3, 0, 1), (2, 3, 0, 1), (3, 3, 0, 1)), [2])
        self.assertEqual(self.asked(9, (1, 3, 0, 1), (2, 3, 0, 1), (3, 3, 0, 1), (4, 2, 0, 0)), [5])

    def test_the_same_flavour_again_behind_another(self):
        # 2, 3 and 4 of flavours 1, 2, 1: the first two are to go.
        self.assertEqual(self.asked(9, (1, 2, 0, 1), (2, 3, 0, 1), (1, 4, 0, 1)), [2])
        self.assertEqual(self.asked(9, (1, 2, 0, 1), (2, 3, 0, 1), (1, 4, 0, 1), (1, 5, 0, 0)), [1])
        self.assertEqual(self.asked(9, (1, 2, 0, 1), (2, 3, 0, 1), (1, 4, 0, 1), (2, 1, 0, 0)), [9])

    def test_back_to_the_flavour_at_the_end(self):
        self.assertEqual(self.asked(10, (1, 4, 0, 1), (2, 6, 0, 1), (1, 1, 0, 0), (2, 4, 0, 0)), [1])

    def test_edges_of_what_it_holds(self):
        self.assertEqual(self.asked(1, (1, 100, 0, 1), (2, 1, 0, 0)), [1])
        self.assertEqual(self.asked(500, (1, 100, 0, 5), (2, 1, 0, 0)), [500])
        self.assertEqual(self.asked(500, (1, 1, 0, 1), (2, 1, 0, 0)), [500])
        self.assertEqual(self.asked(500, (1, 100, 0, 5), (2, 100, 0, 0)), [5])

    def test_flavours_nought_and_nine(self):
        self.assertEqual(self.asked(10, (0, 5, 0, 4), (9, 5, 0, 0)), [2])
        self.assertEqual(self.asked(10, (9, 5, 0, 4), (0, 5, 0, 0)), [2])
        self.assertEqual(self.asked(10, (0, 5, 0, 4)), [0])

    def test_not_fed(self):
        self.assertEqual(last(works((10, 50)) + [("flushed", 0)]), NOT_FED)
        self.assertEqual(last(works((10, 50)) + run_for((1, 5, 0, 1)) + [("stop", 0), ("flushed", 0)]), NOT_FED)
        self.assertEqual(last(frozen() + [("stop", 0), ("flushed", 0)]), NOT_FED)
        self.assertEqual(last(frozen() + [("thaw", 0), ("flushed", 0)]), NOT_FED)

    def test_it_will_freeze_in(self):
        calls = works((100, 1000)) + run_for((1, 20, 0, 1), (2, 9, 0, 0))
        self.assertEqual(last(calls + [("flushed", 0)]), CANNOT_BE)
        self.assertEqual(last(works((100, 1000)) + run_for((1, 20, 0, 1), (2, 10, 0, 0)) + [("flushed", 0)]), [10])

    def test_it_will_freeze_in_but_so_it_is_already(self):
        self.assertEqual(last(works((100, 1000)) + run_for((1, 20, 0, 1), (1, 9, 0, 0)) + [("flushed", 0)]), [0])
        self.assertEqual(last(works((100, 1000)) + run_for((1, 9, 0, 0)) + [("flushed", 0)]), [0])

    def test_frozen_in_already(self):
        self.assertEqual(last(works((100, 1000)) + run_for((1, 20, 0, 1), (2, 9, 0, 1)) + [("flushed", 0)]), CANNOT_BE)
        self.assertEqual(last(frozen(20) + [("flushed", 0)]), [0])
        self.assertEqual(last(frozen(0) + [("flushed", 0)]), [0])

    def test_thawed_with_what_is_in_it(self):
        self.assertEqual(last(frozen(20) + [("thaw", 0), ("run", 0, 4, 50, 0), ("flushed", 0)]), [2])
        self.assertEqual(last(frozen(20) + [("thaw", 0), ("run", 0, 3, 50, 0), ("flushed", 0)]), [0])

    def test_no_such_freezer(self):
        for number in (1, 4, MOST):
            with self.subTest(number=number):
                self.assertEqual(last(works((10, 50)) + [("flushed", number)]), NONE_SUCH)
        self.assertEqual(play([("begin", 1000, 100), ("flushed", 0)])[1], NONE_SUCH)

    def test_each_freezer_by_itself(self):
        calls = works((10, 50), (20, 50)) + [
            ("run", 0, 1, 10, 0), ("run", 1, 2, 20, 0), ("minutes", 1), ("run", 0, 2, 1, 0), ("run", 1, 1, 4, 0),
            ("flushed", 0), ("flushed", 1),
        ]
        self.assertEqual(play(calls)[-2:], [[10], [5]])


class Until(unittest.TestCase):
    def asked(self, setup, flavour, litres):
        told = last(setup + [("until", 0, flavour, litres)])
        if told[0] >= 0:
            self.check_just_so_many(setup, flavour, litres, told[0])
        return told

    def check_just_so_many(self, setup, flavour, litres, told):
        before = last(setup + [("made", flavour)])[1]
        for how_many in (told - 1, told):
            pieces = [500] * (how_many // 500) + [how_many % 500] * (how_many % 500 > 0)
            if how_many >= 0:
                calls = setup + [("minutes", piece) for piece in pieces] + [("made", flavour)]
                self.assertEqual(last(calls)[1] - before >= 1000 * litres, how_many == told)

    def test_so_many_litres_more(self):
        setup = works((10, 50)) + run_for((1, 5, 100, 0))
        # The barrel fills in 2 minutes, then 10 litres come each minute.
        self.assertEqual([self.asked(setup, 1, litres) for litres in (1, 9, 10, 11, 20, 21)],
                         [[3], [3], [3], [4], [4], [5]])

    def test_litres_that_come_out_even(self):
        # 6 kilograms at 1,200 grams a litre are 5 litres just so.
        setup = works((6, 50), density=1200) + run_for((1, 6, 0, 1))
        self.assertEqual([self.asked(setup, 1, litres) for litres in (5, 10, 11, 15, 16)], [[1], [2], [3], [3], [4]])

    def test_of_what_is_rounded_down(self):
        # A kilogram each minute is 833 and a third: of 6 it's 4,998 millilitres, not 5 litres.
        setup = works((1, 50), density=1200) + run_for((1, 1, 0, 1))
        self.assertEqual(self.asked(setup, 1, 5), [7])

    def test_more_than_came_already(self):
        setup = works((10, 50)) + run_for((1, 10, 0, 50))
        self.assertEqual(self.asked(setup, 1, 10), [1])
        self.assertEqual(self.asked(setup, 1, 11), [2])

    def test_out_of_this_freezer_alone(self):
        calls = works((10, 50), (10, 50)) + [
            ("run", 0, 1, 10, 0), ("run", 1, 1, 100, 200), ("minutes", 1), ("until", 0, 1, 10), ("until", 0, 1, 11),
            ("until", 1, 1, 300), ("until", 1, 1, 301),
        ]
        self.assertEqual(play(calls)[6:], [[1], [2], [1], [2]])

    def test_no_litre(self):
        for setup in (works((10, 50)), works((10, 50)) + run_for((1, 5, 0, 3)), frozen(), frozen(0),
                      frozen() + [("stop", 0)], frozen() + [("thaw", 0)]):
            for flavour in (0, 1, 3, 9):
                with self.subTest(setup=setup, flavour=flavour):
                    self.assertEqual(last(setup + [("until", 0, flavour, 0)]), [0])

    def test_old_flavour_comes_out_and_no_more(self):
        # 10 kilograms of flavour 1 are in it and come by threes.
        setup = works((10, 50)) + run_for((1, 10, 0, 1), (2, 3, 0, 0))
        self.assertEqual([self.asked(setup, 1, litres) for litres in (1, 3, 4, 9, 10, 11)],
                         [[1], [1], [2], [3], [4], CANNOT_BE])
        self.assertEqual([self.asked(setup, 2, litres) for litres in (1, 2, 3)], [[4], [4], [5]])
        self.assertEqual(self.asked(setup, 3, 1), CANNOT_BE)

    def test_air_changed_while_old_flavour_comes_out(self):
        setup = works((10, 50)) + run_for((1, 10, 0, 1), (2, 5, 100, 0))
        self.assertEqual([self.asked(setup, 1, litres) for litres in (10, 11, 20, 21)], [[1], [2], [2], CANNOT_BE])

    def test_three_flavours_and_the_same_again_behind_another(self):
        # 2, 3 and 4 of flavours 1, 2, 1, then 3, and 1 comes in two pieces.
        setup = works((9, 50)) + run_for((1, 2, 0, 1), (2, 3, 0, 1), (1, 4, 0, 1), (3, 2, 0, 0))
        self.assertEqual([self.asked(setup, 1, litres) for litres in range(1, 8)],
                         [[1], [1], [3], [4], [4], [5], CANNOT_BE])
        self.assertEqual([self.asked(setup, 2, litres) for litres in range(1, 5)], [[2], [2], [3], CANNOT_BE])

    def test_the_last_minute_that_is_within(self):
        # A barrel of 1 kilogram: of 1 kilogram a minute a litre comes each minute but the first.
        setup = works((1, 50)) + run_for((1, 1, 0, 0))
        self.assertEqual([self.asked(setup, 1, litres) for litres in (998, 999, 1000)], [[999], [1000], CANNOT_BE])
        full = works((1, 50)) + run_for((1, 1, 0, 1))
        self.assertEqual([self.asked(full, 1, litres) for litres in (999, 1000, 1001)], [[999], [1000], CANNOT_BE])

    def test_most_litres(self):
        setup = works((100, 50)) + run_for((1, 100, 0, 1))
        self.assertEqual([self.asked(setup, 1, litres) for litres in (99900, 99901, 100000)], [[999], [1000], [1000]])
        later = works((100, 50)) + run_for((1, 100, 0, 0))
        self.assertEqual([self.asked(later, 1, litres) for litres in (99900, 99901, 100000)],
                         [[1000], CANNOT_BE, CANNOT_BE])
        airy = works((100, 50), density=900) + run_for((1, 100, 200, 1))
        self.assertEqual(self.asked(airy, 1, 100000), [301])

    def test_not_fed(self):
        self.assertEqual(last(works((10, 50)) + [("until", 0, 1, 1)]), CANNOT_BE)
        self.assertEqual(last(works((10, 50)) + run_for((1, 9, 0, 9)) + [("stop", 0), ("until", 0, 1, 1)]), CANNOT_BE)
        self.assertEqual(last(frozen() + [("thaw", 0), ("until", 0, 3, 1)]), CANNOT_BE)

    def test_frozen_in_or_about_to_be(self):
        self.assertEqual(last(frozen(100) + [("until", 0, 3, 1)]), CANNOT_BE)
        setup = works((100, 1000)) + run_for((1, 100, 0, 1))
        self.assertEqual(last(setup + [("run", 0, 1, 9, 0), ("until", 0, 1, 1)]), CANNOT_BE)
        self.assertEqual(last(setup + [("run", 0, 1, 10, 0), ("until", 0, 1, 10)]), [1])

    def test_thawed_with_what_is_in_it(self):
        setup = frozen(100) + [("thaw", 0), ("run", 0, 4, 50, 0)]
        self.assertEqual([self.asked(setup, 3, litres) for litres in (50, 100, 101)], [[1], [2], CANNOT_BE])

    def test_a_power_less_than_the_rate(self):
        setup = works((10, 1), coldest=1) + run_for((1, 2, 0, 0))
        self.assertEqual(self.asked(setup, 1, 2), [6])

    def test_edges_of_flavour(self):
        setup = works((10, 50)) + run_for((9, 10, 0, 1), (0, 10, 0, 0))
        self.assertEqual([self.asked(setup, flavour, 10) for flavour in (9, 0, 8)], [[1], [2], CANNOT_BE])

    def test_refusals_and_their_order(self):
        setup = works((10, 50)) + run_for((1, 10, 0, 1))
        for numbers in ((10, 0), (1, 100001), (10, 100001), (MOST, 0), (1, MOST), (MOST, MOST)):
            with self.subTest(numbers=numbers):
                self.assertEqual(last(setup + [("until", 0) + numbers]), OUT_OF_RANGE)
                self.assertEqual(last(frozen() + [("until", 0) + numbers]), OUT_OF_RANGE)
                self.assertEqual(last(setup + [("until", 1) + numbers]), NONE_SUCH)
                self.assertEqual(last(setup + [("until", MOST) + numbers]), NONE_SUCH)
        self.assertEqual(last(setup + [("until", 1, 1, 0)]), NONE_SUCH)


class Ahead(unittest.TestCase):
    def asked(self, setup, how_many):
        """What ahead answers; and that this is what comes."""
        told = last(setup + [("ahead", how_many)])
        given = play(setup + [("minutes", how_many)] + [("look", number) for number in range(4)])
        self.assertEqual(told[:2], given[len(setup)][1:])
        self.assertEqual(told[2], len([row for row in given[len(setup) + 1:] if row[0] >= 0 and row[3] == 1]))
        return told

    def test_what_comes(self):
        setup = works((10, 50)) + run_for((1, 6, 50, 0))
        self.assertEqual([self.asked(setup, how_many) for how_many in (1, 2, 3)],
                         [[0, 0, 0], [2, 3000, 0], [8, 12000, 0]])

    def test_in_the_next_minutes_alone(self):
        setup = works((10, 50)) + run_for((1, 6, 50, 20))
        self.assertEqual(self.asked(setup, 1), [6, 9000, 0])

    def test_nothing_there(self):
        self.assertEqual(self.asked(works(), 500), [0, 0, 0])
        self.assertEqual(self.asked(works((10, 50)), 500), [0, 0, 0])

    def test_all_freezers(self):
        setup = works((10, 50), (20, 50), (30, 50), (40, 50)) + [
            ("run", 0, 1, 12, 0), ("run", 1, 2, 23, 100), ("run", 3, 3, 44, 200),
        ]
        self.assertEqual(self.asked(setup, 1), [9, 20000, 0])

    def test_one_that_freezes_in_one_that_is_so_already_and_one_not_fed(self):
        setup = works((10, 1000), (10, 1000), (10, 1000), (10, 1000)) + [
            ("run", 0, 1, 1, 0), ("minutes", 1), ("run", 1, 2, 9, 0), ("run", 2, 3, 10, 0),
        ]
        self.assertEqual([self.asked(setup, how_many) for how_many in (1, 2)], [[0, 0, 2], [10, 10000, 2]])

    def test_a_frozen_one_that_was_stopped_counts_and_a_thawed_one_does_not(self):
        self.assertEqual(self.asked(frozen(100) + [("stop", 0)], 5), [0, 0, 1])
        self.assertEqual(self.asked(frozen(100) + [("thaw", 0)], 5), [0, 0, 0])
        self.assertEqual(self.asked(frozen(100) + [("thaw", 0), ("run", 0, 4, 60, 0)], 2), [120, 120000, 0])

    def test_all_four_freeze_in(self):
        setup = works(*[(10, 1000)] * 4) + [("run", number, 1, 9, 0) for number in range(4)]
        self.assertEqual(last(setup + [("ahead", 1)]), [0, 0, 4])

    def test_just_as_cold_as_may_be(self):
        self.assertEqual(self.asked(works((10, 1009)) + run_for((1, 10, 0, 0)), 2), [10, 10000, 0])
        self.assertEqual(self.asked(works((10, 1010)) + run_for((1, 10, 0, 0)), 2), [0, 0, 1])

    def test_a_power_less_than_the_rate(self):
        self.assertEqual(self.asked(works((10, 1), coldest=1) + run_for((1, 2, 0, 0)), 6), [2, 2000, 0])

    def test_parts_are_rounded_apart(self):
        setup = works((3, 50), density=1200) + run_for((1, 1, 0, 1), (2, 1, 0, 1), (1, 1, 0, 1), (2, 3, 0, 0))
        self.assertEqual(self.asked(setup, 1), [3, 3 * 833, 0])

    def test_edges(self):
        setup = works((500, 10000)) + run_for((1, 100, 200, 0))
        self.assertEqual(self.asked(setup, 1), [0, 0, 0])
        self.assertEqual(self.asked(setup, 500), [49500, 148500000, 0])

    def test_out_of_range(self):
        for how_many in (0, 501, MOST):
            with self.subTest(how_many=how_many):
                self.assertEqual(last(works((10, 50)) + [("ahead", how_many)]), OUT_OF_RANGE)


if __name__ == "__main__":
    unittest.main()
