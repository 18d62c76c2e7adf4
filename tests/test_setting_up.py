"""begin and freezer."""

import unittest

from lines import BEGUN, MOST, NONE_SUCH, OUT_OF_RANGE, TOO_MANY, last, play, works


class Begin(unittest.TestCase):
    def test_answers_nought(self):
        for density, coldest in ((900, 1), (900, 500), (1200, 1), (1200, 500), (1000, 100)):
            with self.subTest(density=density, coldest=coldest):
                self.assertEqual(play([("begin", density, coldest)]), [[0]])

    def test_out_of_range(self):
        for density, coldest in ((899, 100), (1201, 100), (1000, 0), (1000, 501), (0, 0), (MOST, 100), (1000, MOST)):
            with self.subTest(density=density, coldest=coldest):
                self.assertEqual(play([("begin", density, coldest)]), [OUT_OF_RANGE])

    def test_grams_a_litre_are_kept(self):
        for density, air in ((900, 80), (1200, 140)):
            with self.subTest(density=density):
                self.assertEqual(last([("begin", density, 100), ("cup", 100, 50)]), [air])

    def test_how_cold_is_kept(self):
        for coldest, frozen in ((9, 1), (10, 0), (500, 0), (1, 1)):
            with self.subTest(coldest=coldest):
                self.assertEqual(last(works((10, 50), coldest=coldest) + [("cold", 0, 5)]), [10, frozen])

    def test_begin_again_leaves_nothing(self):
        calls = works((10, 1000), (20, 500)) + [
            ("run", 0, 3, 50, 0), ("minutes", 9), ("begin", 900, 7), ("slowest", 0), ("minutes", 1), ("cup", 100, 50),
            ("freezer", 10, 40), ("stop", 0), ("thaw", 0), ("cold", 0, 5), ("run", 0, 4, 10, 0), ("minutes", 1),
        ]
        self.assertEqual(play(calls)[5:], [
            [0], NONE_SUCH, [1, 0, 0], [80],
            [0], [-6], [-17], [8, 1], [0], [2, 0, 0],
        ])

    def test_begin_again_lets_four_more_come(self):
        calls = works(*[(10, 50)] * 4) + works(*[(10, 50)] * 5)
        self.assertEqual(play(calls), [[0], [0], [1], [2], [3]] * 2 + [TOO_MANY])

    def test_begin_again_refused_changes_nothing(self):
        before = works((10, 1000)) + [("run", 0, 3, 50, 0), ("minutes", 9)]
        after = [("minutes", 1), ("cup", 100, 50), ("cold", 0, 1), ("slowest", 0), ("stop", 0)]
        for refused in (("begin", 899, 7), ("begin", 950, 501), ("begin", 950, 0)):
            with self.subTest(refused=refused):
                self.assertEqual(play(before + [refused] + after)[4:], [OUT_OF_RANGE] + play(before + after)[4:])


class NewFreezer(unittest.TestCase):
    def test_numbered_from_nought(self):
        self.assertEqual(play(works((1, 1), (500, 10000), (1, 10000), (500, 1))), [[0], [0], [1], [2], [3]])

    def test_no_more_than_four(self):
        calls = works(*[(10, 50)] * 4)
        self.assertEqual(last(calls + [("freezer", 10, 50)]), TOO_MANY)
        self.assertEqual(last(calls + [("freezer", 10, 50), ("stop", 4)]), NONE_SUCH)

    def test_out_of_range(self):
        for there in (0, 4):
            for holds, power in ((0, 50), (501, 50), (10, 0), (10, 10001), (0, 0), (MOST, 50), (10, MOST)):
                with self.subTest(there=there, holds=holds, power=power):
                    self.assertEqual(last(works(*[(10, 50)] * there) + [("freezer", holds, power)]), OUT_OF_RANGE)

    def test_refused_adds_none(self):
        self.assertEqual(play(BEGUN + [("freezer", 0, 50), ("stop", 0), ("freezer", 10, 50)])[2:], [NONE_SUCH, [0]])

    def test_empty_and_not_fed(self):
        self.assertEqual(play(works((10, 50)) + [("stop", 0), ("thaw", 0), ("minutes", 3)])[2:], [[-6], [-17], [3, 0, 0]])
        self.assertEqual(play(works((10, 1000)) + [("run", 0, 0, 1, 0), ("minutes", 1), ("thaw", 0)])[4:], [[0]])

    def test_holds_and_power_are_its_own(self):
        calls = works((3, 40), (8, 90)) + [("cold", 0, 1), ("cold", 1, 1), ("run", 0, 1, 10, 0), ("minutes", 1),
                                           ("stop", 0), ("run", 1, 1, 10, 0), ("minutes", 1)]
        given = play(calls)
        self.assertEqual(given[3:5], [[40, 0], [90, 0]])
        self.assertEqual([given[6], given[9]], [[1, 7, 7000], [2, 2, 2000]])


if __name__ == "__main__":
    unittest.main()
