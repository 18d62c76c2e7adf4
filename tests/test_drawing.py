"""fastest, slowest and cold."""

import unittest

from lines import CANNOT_BE, MOST, NONE_SUCH, OUT_OF_RANGE, frozen, last, play, works


def asked(power, coldest, *calls):
    return play(works((10, power), coldest=coldest) + list(calls))[2:]


class Fastest(unittest.TestCase):
    def test_greatest_rate_and_how_cold(self):
        # Power 1,000: at 20 it's 50 tenths, at 21 it's 47.
        self.assertEqual(asked(1000, 100, ("fastest", 0, 50), ("fastest", 0, 47), ("fastest", 0, 48)),
                         [[20, 50], [21, 47], [20, 50]])

    def test_just_as_cold_as_may_be(self):
        self.assertEqual(asked(1000, 50, ("fastest", 0, 50), ("fastest", 0, 51)), [[20, 50], CANNOT_BE])
        self.assertEqual(asked(1000, 49, ("fastest", 0, 50), ("fastest", 0, 49)), [CANNOT_BE, CANNOT_BE])

    def test_a_jump_over_what_may_be(self):
        # Power 10: at 3 it's 3 tenths, at 2 it's 5: as cold as 4 it's drawn at 2 alone, and that freezes in.
        self.assertEqual(asked(10, 4, ("fastest", 0, 4), ("fastest", 0, 3)), [CANNOT_BE, [3, 3]])
        self.assertEqual(asked(10, 5, ("fastest", 0, 4)), [[2, 5]])

    def test_never_so_cold(self):
        self.assertEqual(asked(10, 500, ("fastest", 0, 11), ("fastest", 0, 10)), [CANNOT_BE, [1, 10]])

    def test_even_the_greatest_rate_freezes_in(self):
        self.assertEqual(asked(10000, 99, ("fastest", 0, 0)), [CANNOT_BE])
        self.assertEqual(asked(10000, 100, ("fastest", 0, 0)), [[100, 100]])

    def test_a_power_less_than_the_rate(self):
        self.assertEqual(asked(7, 10, ("fastest", 0, 0), ("fastest", 0, 1)), [[100, 0], [7, 1]])

    def test_edges(self):
        self.assertEqual(asked(500, 500, ("fastest", 0, 500), ("fastest", 0, 0)), [[1, 500], [100, 5]])
        self.assertEqual(asked(10000, 500, ("fastest", 0, 500)), [[20, 500]])

    def test_refusals(self):
        for tenths in (501, MOST):
            with self.subTest(tenths=tenths):
                self.assertEqual(asked(1000, 100, ("fastest", 0, tenths)), [OUT_OF_RANGE])
                self.assertEqual(asked(10000, 1, ("fastest", 0, tenths)), [OUT_OF_RANGE])
                self.assertEqual(asked(1000, 100, ("fastest", 1, tenths)), [NONE_SUCH])
        self.assertEqual(asked(10000, 1, ("fastest", 1, 0), ("fastest", MOST, 0)), [NONE_SUCH, NONE_SUCH])

    def test_so_fast_it_is_still_so_cold_and_by_one_more_it_is_not(self):
        for power in (1, 9, 99, 100, 101, 777, 9999):
            for coldest in (1, 10, 99, 500):
                self.check_against_cold(power, coldest)

    def check_against_cold(self, power, coldest):
        told = asked(power, coldest, *[("cold", 0, rate) for rate in range(1, 101)])
        wanted = list(range(0, 501, 9))
        given = asked(power, coldest, *[("fastest", 0, tenths) for tenths in wanted])
        for tenths, answer in zip(wanted, given):
            right = [[rate, row[0]] for rate, row in enumerate(told, 1) if row[0] >= tenths and row[1] == 0]
            with self.subTest(power=power, coldest=coldest, tenths=tenths):
                self.assertEqual(answer, right[-1] if right else CANNOT_BE)


class Slowest(unittest.TestCase):
    def test_least_rate_and_how_cold(self):
        self.assertEqual(asked(1000, 100, ("slowest", 0)), [[10, 100]])
        self.assertEqual(asked(1009, 100, ("slowest", 0)), [[10, 100]])
        self.assertEqual(asked(1010, 100, ("slowest", 0)), [[11, 91]])

    def test_edges(self):
        self.assertEqual(asked(500, 500, ("slowest", 0)), [[1, 500]])
        self.assertEqual(asked(501, 500, ("slowest", 0)), [[2, 250]])
        self.assertEqual(asked(1, 1, ("slowest", 0)), [[1, 1]])
        self.assertEqual(asked(10000, 100, ("slowest", 0)), [[100, 100]])

    def test_none(self):
        self.assertEqual(asked(10000, 99, ("slowest", 0)), [CANNOT_BE])
        self.assertEqual(asked(200, 1, ("slowest", 0)), [CANNOT_BE])
        self.assertEqual(asked(199, 1, ("slowest", 0)), [[100, 1]])

    def test_no_such_freezer(self):
        self.assertEqual(asked(10000, 99, ("slowest", 1), ("slowest", MOST)), [NONE_SUCH, NONE_SUCH])

    def test_so_slow_it_does_not_freeze_in_and_by_one_less_it_does(self):
        for power in (1, 99, 1009, 1010, 5000, 9999):
            with self.subTest(power=power):
                setup = works((10, power))
                rate = last(setup + [("slowest", 0)])[0]
                self.assertEqual(last(setup + [("run", 0, 1, rate, 0), ("minutes", 1), ("thaw", 0)]), [-17])
                if rate > 1:
                    self.assertEqual(last(setup + [("run", 0, 1, rate - 1, 0), ("minutes", 1), ("thaw", 0)]), [0])


class Cold(unittest.TestCase):
    def test_rounded_down(self):
        self.assertEqual(asked(1000, 400, ("cold", 0, 3), ("cold", 0, 7)), [[333, 0], [142, 0]])

    def test_just_as_cold_as_may_be(self):
        self.assertEqual(asked(1000, 100, ("cold", 0, 10), ("cold", 0, 9)), [[100, 0], [111, 1]])
        self.assertEqual(asked(1009, 100, ("cold", 0, 10)), [[100, 0]])
        self.assertEqual(asked(1010, 100, ("cold", 0, 10)), [[101, 1]])

    def test_a_power_less_than_the_rate(self):
        self.assertEqual(asked(9, 1, ("cold", 0, 10), ("cold", 0, 9), ("cold", 0, 4)), [[0, 0], [1, 0], [2, 1]])

    def test_edges(self):
        self.assertEqual(asked(10000, 500, ("cold", 0, 1), ("cold", 0, 100)), [[10000, 1], [100, 0]])

    def test_refusals(self):
        for rate in (0, 101, MOST):
            with self.subTest(rate=rate):
                self.assertEqual(asked(1000, 100, ("cold", 0, rate), ("cold", 1, rate)), [OUT_OF_RANGE, NONE_SUCH])
        self.assertEqual(asked(1000, 100, ("cold", 1, 1), ("cold", MOST, 1)), [NONE_SUCH, NONE_SUCH])


class NothingElseMatters(unittest.TestCase):
    QUESTIONS = [("fastest", 0, 50), ("slowest", 0), ("cold", 0, 1)]
    TOLD = [[20, 50], [10, 100], [1000, 1]]

    def test_the_same_when_fed_or_frozen_in_or_thawed(self):
        for setup in (works((100, 1000)), works((100, 1000)) + [("run", 0, 1, 77, 9)], frozen(), frozen() + [("thaw", 0)]):
            self.assertEqual(play(setup + self.QUESTIONS)[len(setup):], self.TOLD)

    def test_asking_changes_nothing(self):
        setup = works((10, 1000)) + [("run", 0, 1, 20, 0), ("minutes", 1)]
        after = [("minutes", 1), ("stop", 0), ("thaw", 0)]
        self.assertEqual(play(setup + self.QUESTIONS + after)[-3:], [[2, 20, 20000], [1], [-17]])

    def test_each_freezer_by_its_own_power(self):
        calls = works((10, 1000), (10, 500)) + [("fastest", 1, 50), ("slowest", 1), ("cold", 1, 1)]
        self.assertEqual(play(calls)[3:], [[10, 50], [5, 100], [500, 1]])


if __name__ == "__main__":
    unittest.main()
