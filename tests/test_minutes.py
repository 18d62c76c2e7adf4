"""minutes: how a minute goes, and the places where it usually breaks."""

import unittest

from lines import BEGUN, MOST, OUT_OF_RANGE, SO_ALREADY, frozen, last, play, works


def fed(setup, *steps):
    """Behind setup, freezer 0 is run with each (flavour, rate, air) for so many minutes; the minutes' answers."""
    calls = list(setup)
    for flavour, rate, air, how_many in steps:
        calls += [("run", 0, flavour, rate, air), ("minutes", how_many)]
    return play(calls)[len(setup) + 1::2]


class Range(unittest.TestCase):
    def test_edges(self):
        self.assertEqual(play(BEGUN + [("minutes", 1), ("minutes", 500), ("minutes", 1)])[1:],
                         [[1, 0, 0], [501, 0, 0], [502, 0, 0]])

    def test_out_of_range(self):
        for how_many in (0, 501, MOST):
            with self.subTest(how_many=how_many):
                calls = works((10, 50)) + [("run", 0, 1, 20, 0), ("minutes", how_many), ("minutes", 1)]
                self.assertEqual(play(calls)[3:], [OUT_OF_RANGE, [1, 10, 10000]])


class ComingOut(unittest.TestCase):
    def test_kilograms_and_millilitres(self):
        # 7 kilograms, half as much again of air, at 1,100 grams a litre: 9,545 and 5 elevenths each minute.
        self.assertEqual(fed(works((7, 50), density=1100), (1, 7, 50, 4)), [[4, 21, 3 * 9545]])

    def test_a_barrel_filled_just_now(self):
        self.assertEqual(fed(works((10, 50)), (1, 5, 0, 2), (1, 5, 0, 1)), [[2, 0, 0], [3, 5, 5000]])
        self.assertEqual(fed(works((11, 50)), (1, 5, 0, 2), (1, 5, 0, 1)), [[2, 0, 0], [3, 4, 4000]])
        self.assertEqual(fed(works((9, 50)), (1, 5, 0, 2), (1, 5, 0, 1)), [[2, 1, 1000], [3, 5, 5000]])

    def test_more_is_fed_than_the_barrel_holds(self):
        self.assertEqual(fed(works((1, 50)), (1, 100, 0, 1), (2, 100, 0, 1)), [[1, 99, 99000], [2, 100, 100000]])

    def test_edges_of_what_it_holds(self):
        self.assertEqual(fed(works((500, 10000)), (1, 100, 0, 5), (1, 100, 0, 1)), [[5, 0, 0], [6, 100, 100000]])

    def test_counted_from_these_minutes_alone(self):
        self.assertEqual(fed(works((10, 50)), (1, 10, 0, 5), (1, 10, 0, 2)), [[5, 40, 40000], [7, 20, 20000]])

    def test_all_freezers_together(self):
        calls = works((10, 50), (20, 50), (30, 50), (40, 50)) + [
            ("run", 0, 1, 12, 0), ("run", 1, 2, 23, 100), ("run", 3, 3, 44, 200), ("minutes", 1),
        ]
        self.assertEqual(last(calls), [1, 2 + 3 + 4, 2000 + 6000 + 12000])

    def test_rounded_down_minute_by_minute(self):
        # 1 kilogram at 1,200 grams a litre is 833 and a third.
        self.assertEqual(fed(works((1, 50), density=1200), (1, 1, 0, 4)), [[4, 3, 3 * 833]])

    def test_rounded_down_for_each_freezer(self):
        calls = works((1, 50), (1, 50), (1, 50), density=1200) + [("run", number, 1, 2, 0) for number in range(3)]
        self.assertEqual(last(calls + [("minutes", 1)]), [1, 3, 3 * 833])


class Parts(unittest.TestCase):
    def test_two_flavours_are_rounded_apart(self):
        # At 1,200 grams a litre 1 kilogram is 833 1/3, 2 are 1,666 2/3, 3 are 2,500.
        self.assertEqual(fed(works((3, 50), density=1200), (1, 1, 0, 1), (2, 2, 0, 1), (3, 3, 0, 1)),
                         [[1, 0, 0], [2, 0, 0], [3, 3, 833 + 1666]])

    def test_the_same_flavour_is_one_part(self):
        self.assertEqual(fed(works((3, 50), density=1200), (1, 1, 0, 1), (1, 2, 0, 1), (3, 3, 0, 1)),
                         [[1, 0, 0], [2, 0, 0], [3, 3, 2500]])

    def test_the_same_flavour_again_behind_a_stop_is_one_part(self):
        calls = works((3, 50), density=1200) + [
            ("run", 0, 1, 1, 0), ("minutes", 1), ("stop", 0), ("minutes", 1), ("run", 0, 1, 2, 0), ("minutes", 1),
            ("run", 0, 2, 3, 0), ("minutes", 1),
        ]
        self.assertEqual(last(calls), [4, 3, 2500])

    def test_three_flavours_in_one_barrel(self):
        # All of 1 kilogram each: three times 833 1/3; then a part cut in two comes out in two minutes.
        steps = ((1, 1, 0, 1), (2, 1, 0, 1), (3, 5, 0, 1), (4, 4, 0, 1), (4, 3, 0, 1))
        self.assertEqual(fed(works((7, 50), density=1200), *steps),
                         [[1, 0, 0], [2, 0, 0], [3, 0, 0], [4, 4, 833 + 833 + 1666], [5, 3, 2500]])

    def test_first_in_first_out(self):
        # 2, 5 and 1 kilograms come by twos: of the first 2; of the second 2, 2, then 1 with the third.
        steps = ((1, 2, 0, 1), (2, 5, 0, 1), (3, 1, 0, 1)) + ((4, 2, 0, 1),) * 4
        self.assertEqual(fed(works((8, 50), density=1200), *steps)[3:],
                         [[4, 2, 1666], [5, 2, 1666], [6, 2, 1666], [7, 2, 833 + 833]])

    def test_the_same_flavour_again_behind_another(self):
        # 1, 1 and 1 of flavours 1, 2, 1: the outer ones aren't one part, nor are they so when they come.
        self.assertEqual(fed(works((3, 50), density=1200), (1, 1, 0, 1), (2, 1, 0, 1), (1, 1, 0, 1), (2, 3, 0, 1)),
                         [[1, 0, 0], [2, 0, 0], [3, 0, 0], [4, 3, 3 * 833]])

    def test_what_is_fed_may_come_out_at_once_as_one_part_with_what_was_there(self):
        self.assertEqual(fed(works((1, 50), density=1200), (1, 1, 0, 1), (1, 3, 0, 1)), [[1, 0, 0], [2, 3, 2500]])
        self.assertEqual(fed(works((1, 50), density=1200), (1, 1, 0, 1), (2, 3, 0, 1)), [[1, 0, 0], [2, 3, 833 + 1666]])


class Air(unittest.TestCase):
    def test_none(self):
        self.assertEqual(fed(works((5, 50)), (1, 5, 0, 2)), [[2, 5, 5000]])

    def test_most(self):
        self.assertEqual(fed(works((5, 50)), (1, 5, 200, 2)), [[2, 5, 15000]])

    def test_changed_while_old_flavour_comes_out(self):
        self.assertEqual(fed(works((6, 50)), (1, 3, 0, 2), (2, 3, 100, 2), (2, 3, 50, 1)),
                         [[2, 0, 0], [4, 6, 12000], [5, 3, 4500]])

    def test_more_never_makes_less(self):
        for density in (900, 1100, 1200):
            made = [fed(works((3, 50), density=density), (1, 7, air, 9))[0] for air in range(201)]
            self.assertEqual(made, sorted(made))
            self.assertEqual({kilograms for minute, kilograms, millilitres in made}, {60})


class FreezingIn(unittest.TestCase):
    def test_just_as_cold_as_may_be(self):
        # Power 1,000 at rate 10 is 100 tenths, as may be; at rate 9 it's 111.
        self.assertEqual(fed(works((10, 1000)), (1, 10, 0, 2)), [[2, 10, 10000]])
        self.assertEqual(fed(works((10, 1009)), (1, 10, 0, 2)), [[2, 10, 10000]])
        self.assertEqual(fed(works((10, 1010)), (1, 10, 0, 2)), [[2, 0, 0]])
        self.assertEqual(fed(works((10, 1000)), (1, 9, 0, 2)), [[2, 0, 0]])

    def test_a_power_less_than_the_rate(self):
        self.assertEqual(fed(works((10, 1), coldest=1), (1, 2, 0, 6)), [[6, 2, 2000]])

    def test_nothing_else_happens_in_that_minute(self):
        self.assertEqual(play(frozen(100) + [("thaw", 0)])[-2:], [[2, 0, 0], [100]])

    def test_frozen_in_it_stays_so(self):
        self.assertEqual(play(frozen(20) + [("minutes", 500), ("thaw", 0)])[-2:], [[502, 0, 0], [20]])

    def test_one_that_is_not_fed_does_not_freeze_in(self):
        self.assertEqual(play(works((10, 10000), coldest=1) + [("minutes", 5), ("thaw", 0)])[2:],
                         [[5, 0, 0], SO_ALREADY])
        calls = works((10, 10000), coldest=1) + [("run", 0, 1, 1, 0), ("stop", 0), ("minutes", 5), ("thaw", 0)]
        self.assertEqual(play(calls)[4:], [[5, 0, 0], SO_ALREADY])

    def test_the_others_go_on(self):
        calls = works((10, 1000), (10, 50)) + [("run", 0, 1, 1, 0), ("run", 1, 1, 10, 0), ("minutes", 3), ("thaw", 1)]
        self.assertEqual(play(calls)[5:], [[3, 20, 20000], SO_ALREADY])


class InPieces(unittest.TestCase):
    def test_whatever_pieces_minutes_come_in(self):
        setup = works((37, 900), (5, 30), (11, 10000), density=937) + [
            ("run", 0, 1, 9, 33), ("run", 1, 2, 7, 101), ("run", 2, 3, 99, 0), ("minutes", 3), ("run", 0, 4, 10, 67),
            ("run", 2, 5, 100, 1),
        ]
        whole = last(setup + [("minutes", 60)])
        for pieces in ((1,) * 60, (59, 1), (1, 59), (20, 30, 10)):
            with self.subTest(pieces=pieces):
                given = play(setup + [("minutes", piece) for piece in pieces])[len(setup):]
                self.assertEqual(given[-1][0], whole[0])
                self.assertEqual([sum(row[1] for row in given), sum(row[2] for row in given)], whole[1:])


if __name__ == "__main__":
    unittest.main()
