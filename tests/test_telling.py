"""made, barrel, look, sums and state."""

import unittest

from lines import FROZEN_IN, MOST, NONE_SUCH, OUT_OF_RANGE, frozen, last, play, works


def behind(setup, *questions):
    return play(setup + list(questions))[len(setup):]


class Made(unittest.TestCase):
    def test_nothing_yet(self):
        self.assertEqual(behind(works(), ("made", 0), ("made", 9)), [[0, 0], [0, 0]])
        self.assertEqual(behind(works((10, 50)) + [("run", 0, 1, 10, 0), ("minutes", 1)], ("made", 1)), [[0, 0]])

    def test_kilograms_and_millilitres_of_each_flavour(self):
        setup = works((10, 50)) + [("run", 0, 1, 10, 50), ("minutes", 4), ("run", 0, 2, 4, 100), ("minutes", 3)]
        # Of flavour 1 30 with half as much again, then 10 and of flavour 2 2 with twice as much.
        self.assertEqual(behind(setup, ("made", 1), ("made", 2), ("made", 3)), [[40, 65000], [2, 4000], [0, 0]])

    def test_of_all_freezers(self):
        setup = works((10, 50), (20, 50), (5, 50)) + [
            ("run", 0, 1, 10, 0), ("run", 1, 1, 20, 100), ("run", 2, 2, 5, 0), ("minutes", 3),
        ]
        self.assertEqual(behind(setup, ("made", 1), ("made", 2)), [[60, 20000 + 80000], [10, 10000]])

    def test_of_a_flavour_that_comes_in_two_pieces(self):
        # 1, 1 and 1 kilograms of flavours 1, 2, 1 at 1,200 grams a litre, each rounded down by itself.
        setup = works((3, 50), density=1200)
        for flavour in (1, 2, 1):
            setup += [("run", 0, flavour, 1, 0), ("minutes", 1)]
        setup += [("run", 0, 4, 7, 0), ("minutes", 1)]
        self.assertEqual(behind(setup, ("made", 1), ("made", 2), ("made", 4)), [[2, 2 * 833], [1, 833], [4, 3333]])

    def test_with_the_air_set_then(self):
        setup = works((10, 50)) + [("run", 0, 1, 10, 0), ("minutes", 1), ("run", 0, 2, 5, 200), ("minutes", 1),
                                   ("run", 0, 2, 5, 50), ("minutes", 1), ("run", 0, 2, 5, 100)]
        self.assertEqual(behind(setup, ("made", 1), ("made", 2)), [[10, 15000 + 7500], [0, 0]])

    def test_stays_when_stopped_frozen_in_or_thawed(self):
        setup = works((10, 1000)) + [("run", 0, 1, 10, 0), ("minutes", 3)]
        for more in ([("stop", 0)], [("run", 0, 1, 1, 0), ("minutes", 5)],
                     [("run", 0, 1, 1, 0), ("minutes", 5), ("thaw", 0)]):
            with self.subTest(more=more):
                self.assertEqual(behind(setup + more, ("made", 1)), [[20, 20000]])

    def test_edges_of_flavour(self):
        setup = works((10, 50)) + [("run", 0, 0, 11, 0), ("minutes", 2), ("run", 0, 9, 20, 0), ("minutes", 1)]
        self.assertEqual(behind(setup, ("made", 0), ("made", 9)), [[22, 22000], [10, 10000]])

    def test_out_of_range(self):
        for flavour in (10, 11, MOST):
            with self.subTest(flavour=flavour):
                self.assertEqual(last(works((10, 50)) + [("made", flavour)]), OUT_OF_RANGE)


class Barrel(unittest.TestCase):
    def fed(self, holds, *steps):
        """What barrel answers behind a minute of each (flavour, rate)."""
        setup = works((holds, 50))
        for flavour, rate in steps:
            setup += [("run", 0, flavour, rate, 0), ("minutes", 1)]
        return last(setup + [("barrel", 0)])

    def test_empty(self):
        self.assertEqual(self.fed(10), [0])
        self.assertEqual(last(works((10, 50)) + [("run", 0, 1, 5, 0), ("barrel", 0)]), [0])

    def test_one_part(self):
        self.assertEqual(self.fed(10, (3, 5)), [5, 3, 5])
        self.assertEqual(self.fed(10, (3, 5), (3, 4)), [9, 3, 9])
        self.assertEqual(self.fed(10, (0, 5)), [5, 0, 5])

    def test_filled_just_now(self):
        self.assertEqual(self.fed(10, (3, 5), (3, 5)), [10, 3, 10])
        self.assertEqual(self.fed(10, (3, 5), (4, 5)), [10, 3, 5, 4, 5])
        self.assertEqual(self.fed(10, (3, 5), (4, 6)), [10, 3, 4, 4, 6])

    def test_three_flavours_the_first_to_come_out_first(self):
        steps = ((3, 2), (1, 3), (2, 4))
        self.assertEqual(self.fed(9, *steps), [9, 3, 2, 1, 3, 2, 4])
        self.assertEqual(self.fed(9, *steps, (5, 1)), [9, 3, 1, 1, 3, 2, 4, 5, 1])
        self.assertEqual(self.fed(9, *steps, (5, 2)), [9, 1, 3, 2, 4, 5, 2])
        self.assertEqual(self.fed(9, *steps, (5, 3)), [9, 1, 2, 2, 4, 5, 3])
        self.assertEqual(self.fed(9, *steps, (5, 9)), [9, 5, 9])
        self.assertEqual(self.fed(9, *steps, (5, 100)), [9, 5, 9])

    def test_the_same_flavour_again_behind_another(self):
        self.assertEqual(self.fed(9, (1, 2), (2, 3), (1, 4)), [9, 1, 2, 2, 3, 1, 4])
        # What was between them is through: there's one part left, and one more behind it is one with it.
        self.assertEqual(self.fed(9, (1, 2), (2, 3), (1, 4), (1, 5)), [9, 1, 9])
        self.assertEqual(self.fed(9, (1, 2), (2, 3), (1, 4), (1, 4)), [9, 2, 1, 1, 8])

    def test_edges_of_what_it_holds(self):
        self.assertEqual(self.fed(1, (9, 100)), [1, 9, 1])
        self.assertEqual(self.fed(500, *[(7, 100)] * 6), [500, 7, 500])

    def test_stays_when_stopped_and_is_one_part_with_what_comes_behind(self):
        setup = works((10, 50)) + [("run", 0, 1, 4, 0), ("minutes", 1), ("stop", 0), ("minutes", 7)]
        self.assertEqual(last(setup + [("barrel", 0)]), [4, 1, 4])
        self.assertEqual(last(setup + [("run", 0, 1, 3, 9), ("minutes", 1), ("barrel", 0)]), [7, 1, 7])

    def test_frozen_in_and_thawed_with_what_is_in_it(self):
        self.assertEqual(last(frozen(20) + [("barrel", 0)]), [20, 3, 20])
        self.assertEqual(last(frozen(0) + [("barrel", 0)]), [0])
        self.assertEqual(last(frozen(20) + [("thaw", 0), ("barrel", 0)]), [20, 3, 20])
        self.assertEqual(last(frozen(20) + [("thaw", 0), ("run", 0, 4, 90, 0), ("minutes", 1), ("barrel", 0)]),
                         [100, 3, 10, 4, 90])

    def test_many_parts(self):
        steps = [(number % 10, 1 + number % 2) for number in range(120)]
        self.assertEqual(self.fed(500, *steps), [180] + [value for step in steps for value in step])

    def test_each_freezer_by_itself(self):
        setup = works((10, 50), (10, 50)) + [("run", 1, 1, 4, 0), ("minutes", 1)]
        self.assertEqual(behind(setup, ("barrel", 0), ("barrel", 1)), [[0], [4, 1, 4]])

    def test_no_such_freezer(self):
        for number in (1, 4, MOST):
            with self.subTest(number=number):
                self.assertEqual(last(works((10, 50)) + [("barrel", number)]), NONE_SUCH)


class Look(unittest.TestCase):
    def test_before_the_first_run(self):
        self.assertEqual(behind(works((10, 50), (500, 10000), (1, 1)), ("look", 0), ("look", 1), ("look", 2)),
                         [[0, 1, 0, 0, 10, 50], [0, 1, 0, 0, 500, 10000], [0, 1, 0, 0, 1, 1]])

    def test_as_it_was_run_last(self):
        setup = works((10, 50))
        self.assertEqual(last(setup + [("run", 0, 0, 7, 33), ("look", 0)]), [1, 7, 33, 0, 10, 50])
        self.assertEqual(last(setup + [("run", 0, 0, 7, 33), ("run", 0, 9, 100, 200), ("look", 0)]),
                         [10, 100, 200, 0, 10, 50])
        self.assertEqual(last(setup + [("run", 0, 9, 100, 200), ("run", 0, 4, 1, 0), ("look", 0)]),
                         [5, 1, 0, 0, 10, 50])

    def test_rate_and_air_stay_when_it_is_stopped(self):
        self.assertEqual(last(works((10, 50)) + [("run", 0, 4, 7, 33), ("stop", 0), ("look", 0)]), [0, 7, 33, 0, 10, 50])

    def test_frozen_in(self):
        self.assertEqual(last(frozen() + [("look", 0)]), [4, 1, 0, 1, 100, 1000])
        self.assertEqual(last(frozen() + [("stop", 0), ("look", 0)]), [0, 1, 0, 1, 100, 1000])
        self.assertEqual(last(frozen() + [("thaw", 0), ("look", 0)]), [0, 1, 0, 0, 100, 1000])

    def test_too_cold_but_no_minute_went_by(self):
        self.assertEqual(last(works((10, 1000)) + [("run", 0, 4, 9, 5), ("look", 0)]), [5, 9, 5, 0, 10, 1000])
        self.assertEqual(last(works((10, 1000)) + [("run", 0, 4, 9, 5), ("minutes", 1), ("look", 0)]),
                         [5, 9, 5, 1, 10, 1000])

    def test_just_as_cold_as_may_be(self):
        self.assertEqual(last(works((10, 1000)) + [("run", 0, 4, 10, 5), ("minutes", 9), ("look", 0)]),
                         [5, 10, 5, 0, 10, 1000])

    def test_a_refused_run_shows_nowhere(self):
        setup = frozen() + [("run", 0, 7, 50, 9)]
        self.assertEqual(behind(frozen(), ("run", 0, 7, 50, 9), ("look", 0)), [FROZEN_IN, [4, 1, 0, 1, 100, 1000]])
        self.assertEqual(last(setup + [("thaw", 0), ("look", 0)]), [0, 1, 0, 0, 100, 1000])

    def test_no_such_freezer(self):
        for number in (1, 4, MOST):
            with self.subTest(number=number):
                self.assertEqual(last(works((10, 50)) + [("look", number)]), NONE_SUCH)


class Sums(unittest.TestCase):
    def test_nothing_yet(self):
        self.assertEqual(last(works() + [("sums",)]), [0, 0, 0, 0, 0])
        self.assertEqual(last(works((10, 50)) + [("minutes", 9), ("sums",)]), [0, 0, 0, 0, 0])

    def test_fed_in_barrels_and_out(self):
        setup = works((10, 50), (20, 50)) + [("run", 0, 1, 6, 50), ("run", 1, 2, 7, 0)]
        self.assertEqual(last(setup + [("minutes", 1), ("sums",)]), [0, 13, 13, 0, 0])
        self.assertEqual(last(setup + [("minutes", 3), ("sums",)]), [0, 39, 10 + 20, 8 + 1, 12000 + 1000])

    def test_what_a_minute_that_freezes_in_does_not_feed(self):
        self.assertEqual(last(frozen(20) + [("minutes", 9), ("sums",)]), [0, 20, 20, 0, 0])

    def test_stopped_and_thawed(self):
        setup = works((10, 1000)) + [("run", 0, 1, 25, 0), ("minutes", 1), ("stop", 0), ("minutes", 3)]
        self.assertEqual(last(setup + [("sums",)]), [0, 25, 10, 15, 15000])
        self.assertEqual(last(setup + [("run", 0, 1, 1, 0), ("minutes", 2), ("thaw", 0), ("sums",)]),
                         [0, 25, 10, 15, 15000])

    def test_rounded_part_by_part(self):
        setup = works((1, 50), density=1200) + [("run", 0, 1, 1, 0), ("minutes", 4)]
        self.assertEqual(last(setup + [("sums",)]), [0, 4, 1, 3, 3 * 833])

    def test_a_long_time(self):
        setup = works(*[(500, 100)] * 4, density=900) + [("run", number, number, 100, 200) for number in range(4)]
        setup += [("minutes", 500)] * 20
        came = 4 * (10000 * 100 - 500)
        self.assertEqual(last(setup + [("sums",)]), [0, 4 * 10000 * 100, 2000, came, came // 100 * 333333])


class State(unittest.TestCase):
    def test_the_minute_the_freezers_and_what_was_told_at_begin(self):
        calls = [("begin", 900, 1), ("state",), ("freezer", 1, 1), ("state",), ("minutes", 500), ("state",),
                 ("minutes", 1), ("state",)]
        self.assertEqual(play(calls)[1::2], [[0, 0, 900, 1], [0, 1, 900, 1], [500, 1, 900, 1], [501, 1, 900, 1]])
        self.assertEqual(last(works((1, 1), (1, 1), density=1200, coldest=500) + [("state",)]), [0, 2, 1200, 500])

    def test_four_freezers(self):
        self.assertEqual(last(works(*[(10, 50)] * 5) + [("state",)]), [0, 4, 1000, 100])

    def test_what_is_refused_changes_nothing(self):
        setup = works((10, 50)) + [("minutes", 7)]
        for refused in (("begin", 899, 100), ("begin", 1000, 501), ("freezer", 0, 1), ("minutes", 0), ("minutes", 501)):
            with self.subTest(refused=refused):
                self.assertEqual(behind(setup, refused, ("state",)), [OUT_OF_RANGE, [7, 1, 1000, 100]])


class BehindASecondBegin(unittest.TestCase):
    FIRST = works((10, 1000), (20, 500), (5, 1000)) + [
        ("run", 0, 3, 50, 70), ("run", 1, 4, 60, 0), ("run", 2, 3, 9, 0), ("minutes", 9), ("run", 0, 5, 20, 10),
    ]
    SECOND = [("begin", 1100, 50), ("freezer", 7, 60)]

    def test_nothing_of_what_was_is_told(self):
        questions = [("made", flavour) for flavour in range(10)] + [
            ("sums",), ("state",), ("barrel", 0), ("look", 0), ("flushed", 0), ("until", 0, 3, 1), ("until", 0, 3, 0),
            ("ahead", 500), ("barrel", 1), ("look", 1), ("flushed", 1), ("until", 1, 3, 0), ("yield", 11, 0),
            ("need", 11, 0),
        ]
        self.assertEqual(behind(self.FIRST + self.SECOND, *questions), [[0, 0]] * 10 + [
            [0, 0, 0, 0, 0], [0, 1, 1100, 50], [0], [0, 1, 0, 0, 7, 60], [-6], [-33], [0],
            [0, 0, 0], [-2], [-2], [-2], [-2], [10000],
            [13],
        ])

    def test_all_goes_as_in_a_new_line(self):
        more = self.SECOND + [
            ("run", 0, 3, 4, 20), ("minutes", 3), ("run", 0, 4, 2, 0), ("flushed", 0), ("until", 0, 3, 5), ("ahead", 9),
            ("minutes", 2), ("made", 3), ("made", 4), ("barrel", 0), ("look", 0), ("sums",), ("state",),
        ]
        self.assertEqual(behind(self.FIRST, *more), play(more))

    def test_a_begin_that_is_refused_changes_nothing(self):
        questions = [("made", 3), ("made", 4), ("sums",), ("state",), ("barrel", 0), ("look", 0), ("flushed", 0),
                     ("until", 0, 3, 9), ("ahead", 5), ("yield", 11, 0), ("need", 11, 0)]
        for refused in (("begin", 899, 50), ("begin", 1201, 50), ("begin", 1100, 0), ("begin", 1100, 501)):
            with self.subTest(refused=refused):
                self.assertEqual(behind(self.FIRST + [refused], *questions), behind(self.FIRST, *questions))


if __name__ == "__main__":
    unittest.main()
