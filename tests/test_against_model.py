"""Long mixed lines against a model that goes kilogram by kilogram and knows nothing of parts."""

import unittest
from copy import deepcopy
from fractions import Fraction
from itertools import groupby
from math import ceil, floor

from lines import NAMES, drawn_line, play


class Refused(Exception):
    pass


def need(holds, refusal):
    if not holds:
        raise Refused(refusal)


class Model:
    def __init__(self):
        self.begun = False

    def answer(self, name, *numbers):
        try:
            need(name == "begin" or self.begun, -11)
            return list(getattr(self, "yields" if name == "yield" else name)(*numbers))
        except Refused as refusal:
            return [refusal.args[0]]

    def box(self, number):
        need(number < len(self.boxes), -2)
        return self.boxes[number]

    def begin(self, density, coldest):
        need(density in range(900, 1201) and coldest in range(1, 501), -22)
        self.begun, self.density, self.coldest, self.clock, self.boxes = True, density, coldest, 0, []
        self.fed, self.came = 0, []
        return (0,)

    def freezer(self, holds, power):
        need(holds in range(1, 501) and power in range(1, 10001), -22)
        need(len(self.boxes) < 4, -28)
        self.boxes.append({"holds": holds, "power": power, "flavour": None, "rate": 1, "air": 0, "frozen": False,
                           "barrel": []})
        return (len(self.boxes) - 1,)

    def run(self, number, flavour, rate, air):
        box = self.box(number)
        need(flavour in range(10) and rate in range(1, 101) and air in range(201), -22)
        need(not box["frozen"], -16)
        before = box["flavour"]
        box.update(flavour=flavour, rate=rate, air=air)
        return (0 if before is None else before + 1,)

    def stop(self, number):
        box = self.box(number)
        need(box["flavour"] is not None, -6)
        before, box["flavour"] = box["flavour"], None
        return (before,)

    def thaw(self, number):
        box = self.box(number)
        need(box["frozen"], -17)
        box.update(frozen=False, flavour=None)
        return (len(box["barrel"]),)

    def minutes(self, how_many):
        need(how_many in range(1, 501), -22)
        before = len(self.came)
        for step in range(how_many):
            self.clock += 1
            for box in self.boxes:
                self.minute(box)
        return (self.clock, *self.together(self.came[before:]))

    def together(self, rows):
        """The kilograms and the millilitres of the rows (flavour, kilograms, millilitres)."""
        return sum(row[1] for row in rows), sum(row[2] for row in rows)

    def minute(self, box):
        if box["flavour"] is None or box["frozen"]:
            return
        if floor(Fraction(box["power"], box["rate"])) > self.coldest:
            box["frozen"] = True
            return
        box["barrel"] += [box["flavour"]] * box["rate"]
        self.fed += box["rate"]
        more = max(0, len(box["barrel"]) - box["holds"])
        came, box["barrel"] = box["barrel"][:more], box["barrel"][more:]
        for flavour, run in groupby(came):
            kilograms = len(list(run))
            self.came.append((flavour, kilograms, self.filled(kilograms, box["air"])))

    def filled(self, kilograms, air):
        return floor(Fraction(kilograms * 1000000, self.density) * Fraction(100 + air, 100))

    def cup(self, millilitres, grams):
        need(millilitres in range(1, 10001) and grams in range(1, 20001), -22)
        mix = Fraction(grams * 1000, self.density)
        need(mix <= millilitres, -33)
        return (floor((millilitres - mix) * 100 / mix),)

    def cupfor(self, millilitres, air):
        need(millilitres in range(1, 10001) and air in range(201), -22)
        return (ceil(Fraction(millilitres * self.density, 1000) / Fraction(100 + air, 100)),)

    def rates(self, box, least):
        told = [(rate, floor(Fraction(box["power"], rate))) for rate in range(1, 101)]
        right = [row for row in told if least <= row[1] <= self.coldest]
        need(right, -33)
        return right

    def fastest(self, number, tenths):
        box = self.box(number)
        need(tenths <= 500, -22)
        return max(self.rates(box, tenths))

    def slowest(self, number):
        return min(self.rates(self.box(number), 0))

    def cold(self, number, rate):
        box = self.box(number)
        need(rate in range(1, 101), -22)
        tenths = floor(Fraction(box["power"], rate))
        return (tenths, int(tenths > self.coldest))


    def flushed(self, number):
        box = self.box(number)
        need(box["flavour"] is not None, -6)
        future = deepcopy(self)
        box = future.boxes[number]
        for minute in range(1001):
            if set(box["barrel"]) <= {box["flavour"]}:
                return (minute,)
            future.minute(box)
            need(not box["frozen"], -33)
        raise Refused(-33)

    def until(self, number, flavour, litres):
        self.box(number)
        need(flavour in range(10) and litres <= 100000, -22)
        future = deepcopy(self)
        future.came = []
        box = future.boxes[number]
        for minute in range(1001):
            if sum(row[2] for row in future.came if row[0] == flavour) >= litres * 1000:
                return (minute,)
            # None will come of a flavour that's neither in it nor fed.
            need(flavour == box["flavour"] or flavour in box["barrel"], -33)
            future.minute(box)
            need(box["flavour"] is not None and not box["frozen"], -33)
        raise Refused(-33)

    def ahead(self, how_many):
        need(how_many in range(1, 501), -22)
        future = deepcopy(self)
        told = future.minutes(how_many)
        return (*told[1:], sum(box["frozen"] for box in future.boxes))

    def made(self, flavour):
        need(flavour in range(10), -22)
        return self.together([row for row in self.came if row[0] == flavour])

    def yields(self, kilograms, air):
        need(kilograms <= 100000 and air in range(201), -22)
        return (self.filled(kilograms, air),)

    def need(self, litres, air):
        need(litres <= 100000 and air in range(201), -22)
        return (ceil(Fraction(litres * self.density, 1000) / Fraction(100 + air, 100)),)

    def barrel(self, number):
        barrel = self.box(number)["barrel"]
        parts = [(flavour, len(list(run))) for flavour, run in groupby(barrel)]
        return (len(barrel), *[part for pair in parts for part in pair])

    def look(self, number):
        box = self.box(number)
        fed_with = 0 if box["flavour"] is None else box["flavour"] + 1
        return (fed_with, box["rate"], box["air"], int(box["frozen"]), box["holds"], box["power"])

    def sums(self):
        return (0, self.fed, sum(len(box["barrel"]) for box in self.boxes), *self.together(self.came))

    def state(self):
        return (self.clock, len(self.boxes), self.density, self.coldest)


class AgainstModel(unittest.TestCase):
    def test_mixed_lines(self):
        seen = set()
        for seed in range(200):
            calls = drawn_line(seed, 150)
            model = Model()
            expected = [model.answer(*call) for call in calls]
            with self.subTest(seed=seed):
                self.assertEqual(list(zip(calls, play(calls))), list(zip(calls, expected)))
            seen.update((call[0], min(0, answer[0])) for call, answer in zip(calls, expected))
        # Lines that never come to an answer or a refusal would show nothing of it.
        self.assertLessEqual({(name, 0) for name in NAMES}, seen)
        self.assertLessEqual({(name, -33) for name in ("cup", "fastest", "slowest", "flushed", "until")}, seen)
        self.assertLessEqual({-2, -6, -11, -16, -17, -22, -28, -33}, {refusal for name, refusal in seen})


if __name__ == "__main__":
    unittest.main()
