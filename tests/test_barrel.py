"""The barrel's parts, and which flavour comes out in a minute: no call shows the flavours yet."""

import unittest

from freezersoverrun.barrel import draw, feed, weight
from freezersoverrun.works import Freezer


class Barrel(unittest.TestCase):
    def test_weight(self):
        self.assertEqual(weight([]), 0)
        self.assertEqual(weight([(9, 3), (1, 4), (9, 5)]), 12)

    def test_fed_at_the_end(self):
        parts = []
        for flavour, kilograms in ((1, 2), (2, 3), (2, 4), (1, 5)):
            feed(parts, flavour, kilograms)
        self.assertEqual(parts, [(1, 2), (2, 7), (1, 5)])

    def test_drawn_at_the_front(self):
        parts = [(1, 2), (2, 7), (1, 5)]
        self.assertEqual(draw(parts, 4), [(1, 2), (2, 2)])
        self.assertEqual(parts, [(2, 5), (1, 5)])
        self.assertEqual(draw(parts, 5), [(2, 5)])
        self.assertEqual(draw(parts, 5), [(1, 5)])
        self.assertEqual(parts, [])

    def test_nothing_to_draw(self):
        for kilograms in (0, -1):
            parts = [(1, 2)]
            self.assertEqual(draw(parts, kilograms), [])
            self.assertEqual(parts, [(1, 2)])


class AMinute(unittest.TestCase):
    def test_each_part_that_comes_by_its_flavour(self):
        freezer = Freezer(3, 50)
        freezer.parts = [(7, 1), (2, 2)]
        freezer.fed_with = 1
        freezer.rate = 5
        freezer.air = 100
        self.assertEqual(freezer.pass_minute(1200, 100), [(7, 1, 1666), (2, 2, 3333), (0, 2, 3333)])
        self.assertEqual(freezer.parts, [(0, 3)])

    def test_every_kilogram_fed_is_in_it_or_came_out(self):
        freezer = Freezer(37, 900)
        fed = {}
        came = {}
        for step in range(300):
            flavour = step // 3 * 7 % 10
            freezer.fed_with = flavour + 1
            freezer.rate = 1 + step * 13 % 40
            fed[flavour] = fed.get(flavour, 0) + freezer.rate
            for part in freezer.pass_minute(1000, 10000):
                came[part[0]] = came.get(part[0], 0) + part[1]
            self.assertLessEqual(weight(freezer.parts), 37)
            there = {flavour: sum(part[1] for part in freezer.parts if part[0] == flavour) for flavour in fed}
            self.assertEqual(fed, {flavour: came.get(flavour, 0) + there[flavour] for flavour in fed})


if __name__ == "__main__":
    unittest.main()
