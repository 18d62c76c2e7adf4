"""yield and need."""

import unittest
from fractions import Fraction

from lines import BEGUN, MOST, OUT_OF_RANGE, last, play


def asked(density, *calls):
    return play([("begin", density, 100)] + list(calls))[1:]


class Yield(unittest.TestCase):
    def test_millilitres(self):
        self.assertEqual(asked(1000, ("yield", 7, 0), ("yield", 7, 100), ("yield", 7, 33)), [[7000], [14000], [9310]])

    def test_rounded_down(self):
        # 1 kilogram at 1,200 grams a litre is 833 and a third, 2 are 1,666 and two thirds, 3 are 2,500.
        self.assertEqual(asked(1200, ("yield", 1, 0), ("yield", 2, 0), ("yield", 3, 0)), [[833], [1666], [2500]])
        self.assertEqual(asked(900, ("yield", 1, 0), ("yield", 1, 1)), [[1111], [1122]])

    def test_edges(self):
        self.assertEqual(asked(1000, ("yield", 0, 0), ("yield", 0, 200), ("yield", 100000, 0), ("yield", 100000, 200)),
                         [[0], [0], [100000000], [300000000]])
        self.assertEqual(asked(900, ("yield", 100000, 200)), [[333333333]])

    def test_out_of_range(self):
        for numbers in ((100001, 0), (0, 201), (100001, 201), (MOST, 0), (0, MOST), (MOST, MOST)):
            with self.subTest(numbers=numbers):
                self.assertEqual(last(BEGUN + [("yield",) + numbers]), OUT_OF_RANGE)

    def test_more_air_never_makes_less(self):
        for kilograms in (1, 2, 999):
            told = asked(1187, *[("yield", kilograms, air) for air in range(201)])
            self.assertEqual(told, sorted(told))

    def test_as_much_as_comes_out(self):
        # 7 kilograms come in one part.
        for air in (0, 1, 99, 200):
            with self.subTest(air=air):
                calls = [("begin", 1013, 100), ("freezer", 7, 50), ("run", 0, 1, 7, air), ("minutes", 1),
                         ("minutes", 1), ("yield", 7, air)]
                given = play(calls)
                self.assertEqual(given[4][1:], [7] + given[5])


class Need(unittest.TestCase):
    def test_fewest_kilograms(self):
        self.assertEqual(asked(1000, ("need", 10, 0), ("need", 10, 100), ("need", 11, 100), ("need", 10, 200)),
                         [[10], [5], [6], [4]])

    def test_litres_that_come_out_even(self):
        # At 1,200 grams a litre with 20 hundredths of air a kilogram is a litre just so.
        self.assertEqual(asked(1200, ("need", 1, 20), ("need", 7, 20), ("need", 7, 19), ("need", 7, 21)),
                         [[1], [7], [8], [7]])
        self.assertEqual(asked(1100, ("need", 10, 0), ("need", 1, 0)), [[11], [2]])
        self.assertEqual(asked(900, ("need", 10, 0), ("need", 9, 0), ("need", 1, 0)), [[9], [9], [1]])

    def test_a_thousandth_of_a_kilogram_over_takes_one_more(self):
        self.assertEqual(asked(1001, ("need", 1, 0)), [[2]])
        self.assertEqual(asked(999, ("need", 999, 0), ("need", 1, 0)), [[999], [1]])

    def test_no_litre(self):
        self.assertEqual(asked(1200, ("need", 0, 0), ("need", 0, 200)), [[0], [0]])

    def test_edges(self):
        self.assertEqual(asked(1200, ("need", 100000, 0), ("need", 100000, 200), ("need", 1, 200)),
                         [[120000], [40000], [1]])
        self.assertEqual(asked(900, ("need", 100000, 0), ("need", 100000, 200)), [[90000], [30000]])

    def test_out_of_range(self):
        for numbers in ((100001, 0), (0, 201), (100001, 201), (MOST, 0), (0, MOST), (MOST, MOST)):
            with self.subTest(numbers=numbers):
                self.assertEqual(last(BEGUN + [("need",) + numbers]), OUT_OF_RANGE)

    def test_so_few_kilograms_make_so_many_litres_and_no_fewer(self):
        for density in (900, 997, 1000, 1100, 1200):
            wanted = [(litres, air) for litres in (1, 2, 3, 77, 1000, 83333) for air in range(0, 201, 8)]
            told = asked(density, *[("need",) + pair for pair in wanted])
            least = asked(density, *[("yield", row[0], air) for row, (litres, air) in zip(told, wanted)])
            fewer = asked(density, *[("yield", row[0] - 1, air) for row, (litres, air) in zip(told, wanted)])
            for pair, enough, short in zip(wanted, least, fewer):
                with self.subTest(density=density, pair=pair):
                    self.assertGreaterEqual(enough[0], 1000 * pair[0])
                    self.assertLess(short[0], 1000 * pair[0])

    def test_also_where_more_is_needed_than_yield_takes(self):
        for density in (1001, 1199, 1200):
            for litres in (99999, 100000):
                kilograms = asked(density, ("need", litres, 0))[0][0]
                self.assertGreater(kilograms, 100000)
                self.assertGreaterEqual(Fraction(kilograms * 1000, density), litres)
                self.assertLess(Fraction((kilograms - 1) * 1000, density), litres)


class NothingElseMatters(unittest.TestCase):
    def test_no_freezer_is_needed_and_nothing_changes(self):
        calls = [("begin", 1000, 1), ("yield", 9, 50), ("need", 9, 50), ("sums",), ("state",), ("made", 0)]
        self.assertEqual(play(calls), [[0], [13500], [6], [0, 0, 0, 0, 0], [0, 0, 1000, 1], [0, 0]])


if __name__ == "__main__":
    unittest.main()
