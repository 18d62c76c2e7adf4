"""cup and cupfor."""

import unittest
from fractions import Fraction

from lines import BEGUN, CANNOT_BE, MOST, OUT_OF_RANGE, last, play


def cups(density, *calls):
    return play([("begin", density, 100)] + list(calls))[1:]


class Cup(unittest.TestCase):
    def test_hundredths_of_air(self):
        # 1,000 millilitres that weigh half as much as mix have 100; 999 less 500, by 5, is 99.8.
        self.assertEqual(cups(1000, ("cup", 1000, 500), ("cup", 999, 500)), [[100], [99]])
        self.assertEqual(cups(1100, ("cup", 1000, 700)), [[400000 // 7000]])

    def test_without_air(self):
        self.assertEqual(cups(1000, ("cup", 500, 500), ("cup", 500, 501)), [[0], CANNOT_BE])
        self.assertEqual(cups(1200, ("cup", 5, 6), ("cup", 5, 7)), [[0], CANNOT_BE])
        self.assertEqual(cups(900, ("cup", 10, 9), ("cup", 11, 9), ("cup", 9, 9)), [[0], [10], CANNOT_BE])

    def test_heavier_by_less_than_a_hundredth_is_still_too_heavy(self):
        self.assertEqual(cups(1001, ("cup", 9999, 10008), ("cup", 9999, 10009)), [[0], CANNOT_BE])

    def test_edges(self):
        self.assertEqual(cups(1000, ("cup", 1, 1), ("cup", 10000, 1), ("cup", 10000, 10000)), [[0], [999900], [0]])
        self.assertEqual(cups(1200, ("cup", 10000, 20000), ("cup", 10000, 12000), ("cup", 10000, 12001)),
                         [CANNOT_BE, [0], CANNOT_BE])
        self.assertEqual(cups(900, ("cup", 1, 1)), [CANNOT_BE])

    def test_out_of_range(self):
        for numbers in ((0, 1), (10001, 1), (1, 0), (10000, 20001), (0, 0), (MOST, 1), (10000, MOST), (0, 20000)):
            with self.subTest(numbers=numbers):
                self.assertEqual(last(BEGUN + [("cup",) + numbers]), OUT_OF_RANGE)


class CupFor(unittest.TestCase):
    def test_fewest_grams(self):
        self.assertEqual(cups(1000, ("cupfor", 1000, 100), ("cupfor", 1001, 100), ("cupfor", 999, 100)),
                         [[500], [501], [500]])

    def test_exactly_and_not_rounded(self):
        # 500 grams in 1,001 millilitres have 100.2 hundredths, which is more, though cup tells 100 of it.
        self.assertEqual(cups(1000, ("cup", 1001, 500), ("cupfor", 1001, 100)), [[100], [501]])

    def test_a_thousandth_of_a_gram_over_takes_one_more(self):
        self.assertEqual(cups(1001, ("cupfor", 1, 0)), [[2]])
        self.assertEqual(cups(999, ("cupfor", 999, 0), ("cupfor", 1, 0)), [[999], [1]])

    def test_air_of_nought(self):
        self.assertEqual(cups(1000, ("cupfor", 500, 0)), [[500]])
        self.assertEqual(cups(900, ("cupfor", 1, 0), ("cupfor", 10, 0), ("cupfor", 11, 0)), [[1], [9], [10]])

    def test_edges(self):
        self.assertEqual(cups(1200, ("cupfor", 10000, 0), ("cupfor", 10000, 200), ("cupfor", 1, 200)),
                         [[12000], [4000], [1]])

    def test_out_of_range(self):
        for numbers in ((0, 0), (10001, 0), (1, 201), (0, 201), (MOST, 0), (1, MOST)):
            with self.subTest(numbers=numbers):
                self.assertEqual(last(BEGUN + [("cupfor",) + numbers]), OUT_OF_RANGE)

    def test_with_so_few_no_more_air_and_with_a_gram_less_it_has(self):
        for density in (900, 997, 1000, 1200):
            asked = [(millilitres, air) for millilitres in (1, 2, 99, 250, 1001, 9999) for air in range(0, 201, 7)]
            given = cups(density, *[("cupfor", millilitres, air) for millilitres, air in asked])
            for (millilitres, air), (grams,) in zip(asked, given):
                with self.subTest(density=density, millilitres=millilitres, air=air):
                    # Mix that a cup of so many grams is made of, and how many hundredths more the cup has.
                    mix = Fraction(1000 * grams, density)
                    self.assertLessEqual((millilitres - mix) * 100, air * mix)
                    mix = Fraction(1000 * (grams - 1), density)
                    self.assertGreater((millilitres - mix) * 100, air * mix)


class NothingElseMatters(unittest.TestCase):
    def test_no_freezer_is_needed_and_nothing_changes(self):
        calls = [("begin", 1000, 1), ("cup", 1000, 500), ("cupfor", 1000, 100), ("minutes", 1), ("freezer", 1, 1)]
        self.assertEqual(play(calls), [[0], [100], [500], [1, 0, 0], [0]])


if __name__ == "__main__":
    unittest.main()
