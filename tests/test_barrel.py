"""The barrel's parts, and a freezer's twin, by themselves."""

import unittest

from freezersoverrun.barrel import draw, feed, weight
from freezersoverrun.works import Freezer


class Barrel(unittest.TestCase):
    def test_weight(self):
        self.assertEqual(weight([]), 0)
        self.assertEqual(weight([(9, 3), (1, 4), (9, 5)]), 12)

    def test_fed_at_the_end(self):
        parts = []
        for flavour, kilograms in ((1, 2), (2, 3), (2, 4), (1, 5)):
            feed(parts, flavour, kilograms)
        self.assertEqual(parts, [(1, 2), (2, 7), (1, 5)])

    def test_drawn_at_the_front(self):
        parts = [(1, 2), (2, 7), (1, 5)]
        self.assertEqual(draw(parts, 4), [(1, 2), (2, 2)])
        self.assertEqual(parts, [(2, 5), (1, 5)])
        self.assertEqual(draw(parts, 5), [(2, 5)])
        self.assertEqual(draw(parts, 5), [(1, 5)])
        self.assertEqual(parts, [])

    def test_nothing_to_draw(self):
        for kilograms in (0, -1):
            parts = [(1, 2)]
            self.assertEqual(draw(parts, kilograms), [])
            self.assertEqual(parts, [(1, 2)])


class Twin(unittest.TestCase):
    def setUp(self):
        self.freezer = Freezer(3, 50)
        self.freezer.parts = [(7, 1), (2, 2)]
        self.freezer.fed_with = 1
        self.freezer.rate = 5
        self.freezer.air = 100
        self.freezer.pass_minute(1200, 100)

    def test_of_a_minute_each_part_is_counted_by_its_flavour(self):
        self.assertEqual(self.freezer.kilograms, [2, 0, 2, 0, 0, 0, 0, 1, 0, 0])
        self.assertEqual(self.freezer.millilitres, [3333, 0, 3333, 0, 0, 0, 0, 1666, 0, 0])
        self.assertEqual((self.freezer.total_fed, self.freezer.parts), (5, [(0, 3)]))

    def test_as_the_freezer_is_but_for_what_came(self):
        twin = vars(self.freezer.twin())
        told = vars(self.freezer)
        counts = ("total_fed", "kilograms", "millilitres")
        self.assertEqual({name: twin[name] for name in twin if name not in counts},
                         {name: told[name] for name in told if name not in counts})
        self.assertEqual([twin[name] for name in counts], [0, [0] * 10, [0] * 10])

    def test_the_freezer_stays_as_it_is(self):
        told = {name: list(value) if isinstance(value, list) else value for name, value in vars(self.freezer).items()}
        twin = self.freezer.twin()
        twin.pass_minute(1200, 100)
        twin.pass_minute(1200, 1)
        self.assertEqual(vars(self.freezer), told)


if __name__ == "__main__":
    unittest.main()
