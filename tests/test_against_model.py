"""Long mixed lines against a model that goes kilogram by kilogram and knows nothing of parts."""

import random
import unittest
from fractions import Fraction
from itertools import groupby
from math import ceil, floor

from lines import MOST, play


class Refused(Exception):
    pass


def need(holds, refusal):
    if not holds:
        raise Refused(refusal)


class Model:
    def __init__(self):
        self.begun = False

    def answer(self, name, *numbers):
        try:
            need(name == "begin" or self.begun, -11)
            return list(getattr(self, name)(*numbers))
        except Refused as refusal:
            return [refusal.args[0]]

    def box(self, number):
        need(number < len(self.boxes), -2)
        return self.boxes[number]

    def begin(self, density, coldest):
        need(density in range(900, 1201) and coldest in range(1, 501), -22)
        self.begun, self.density, self.coldest, self.clock, self.boxes = True, density, coldest, 0, []
        return (0,)

    def freezer(self, holds, power):
        need(holds in range(1, 501) and power in range(1, 10001), -22)
        need(len(self.boxes) < 4, -28)
        self.boxes.append({"holds": holds, "power": power, "flavour": None, "frozen": False, "barrel": []})
        return (len(self.boxes) - 1,)

    def run(self, number, flavour, rate, air):
        box = self.box(number)
        need(flavour in range(10) and rate in range(1, 101) and air in range(201), -22)
        need(not box["frozen"], -16)
        before = box["flavour"]
        box.update(flavour=flavour, rate=rate, air=air)
        return (0 if before is None else before + 1,)

    def stop(self, number):
        box = self.box(number)
        need(box["flavour"] is not None, -6)
        before, box["flavour"] = box["flavour"], None
        return (before,)

    def thaw(self, number):
        box = self.box(number)
        need(box["frozen"], -17)
        box.update(frozen=False, flavour=None)
        return (len(box["barrel"]),)

    def minutes(self, how_many):
        need(how_many in range(1, 501), -22)
        self.clock += how_many
        came = [pair for step in range(how_many) for box in self.boxes for pair in self.minute(box)]
        return (self.clock, sum(pair[0] for pair in came), sum(pair[1] for pair in came))

    def minute(self, box):
        if box["flavour"] is None or box["frozen"]:
            return
        if floor(Fraction(box["power"], box["rate"])) > self.coldest:
            box["frozen"] = True
            return
        box["barrel"] += [box["flavour"]] * box["rate"]
        more = max(0, len(box["barrel"]) - box["holds"])
        came, box["barrel"] = box["barrel"][:more], box["barrel"][more:]
        for flavour, run in groupby(came):
            kilograms = len(list(run))
            yield kilograms, floor(Fraction(kilograms * 1000000, self.density) * Fraction(100 + box["air"], 100))

    def cup(self, millilitres, grams):
        need(millilitres in range(1, 10001) and grams in range(1, 20001), -22)
        mix = Fraction(grams * 1000, self.density)
        need(mix <= millilitres, -33)
        return (floor((millilitres - mix) * 100 / mix),)

    def cupfor(self, millilitres, air):
        need(millilitres in range(1, 10001) and air in range(201), -22)
        return (ceil(Fraction(millilitres * self.density, 1000) / Fraction(100 + air, 100)),)

    def rates(self, box, least):
        told = [(rate, floor(Fraction(box["power"], rate))) for rate in range(1, 101)]
        right = [row for row in told if least <= row[1] <= self.coldest]
        need(right, -33)
        return right

    def fastest(self, number, tenths):
        box = self.box(number)
        need(tenths <= 500, -22)
        return max(self.rates(box, tenths))

    def slowest(self, number):
        return min(self.rates(self.box(number), 0))

    def cold(self, number, rate):
        box = self.box(number)
        need(rate in range(1, 101), -22)
        tenths = floor(Fraction(box["power"], rate))
        return (tenths, int(tenths > self.coldest))


# What each call's numbers are mostly drawn from.
USUAL = {
    "begin": ((900, 1200), (1, 120)),
    "freezer": ((1, 60), (1, 900)),
    "run": ((0, 4), (0, 4), (1, 30), (0, 200)),
    "stop": ((0, 4),),
    "thaw": ((0, 4),),
    "minutes": ((1, 9),),
    "cup": ((1, 10000), (1, 10000)),
    "cupfor": ((1, 10000), (0, 200)),
    "fastest": ((0, 4), (0, 60)),
    "slowest": ((0, 4),),
    "cold": ((0, 4), (1, 100)),
}
# The edges of every range that is told, and what lies beside them.
EDGES = (0, 1, 4, 5, 9, 10, 99, 100, 101, 199, 200, 201, 499, 500, 501, 899, 900, 1200, 1201, 9999, 10000, 10001, 20000,
         20001, MOST - 1, MOST)
OFTEN = ("run", "minutes") * 5 + ("freezer", "thaw", "stop") * 2 + tuple(USUAL)[1:]


def drawn(source, name):
    numbers = [source.randint(low, high) for low, high in USUAL[name]]
    if source.random() < 0.05:
        numbers[source.randrange(len(numbers))] = source.choice(EDGES)
    return (name, *numbers)


def drawn_line(seed):
    source = random.Random(seed)
    calls = [drawn(source, "begin"), drawn(source, "freezer"), drawn(source, "freezer")]
    while len(calls) < 150:
        calls.append(drawn(source, "begin" if source.random() < 0.004 else source.choice(OFTEN)))
    return calls


class AgainstModel(unittest.TestCase):
    def test_mixed_lines(self):
        seen = set()
        for seed in range(200):
            calls = drawn_line(seed)
            model = Model()
            expected = [model.answer(*call) for call in calls]
            with self.subTest(seed=seed):
                self.assertEqual(list(zip(calls, play(calls))), list(zip(calls, expected)))
            seen.update(answer[0] for answer in expected)
        # Lines that never come to a refusal would show nothing of it.
        self.assertLessEqual({-2, -6, -11, -16, -17, -22, -28, -33}, seen)


if __name__ == "__main__":
    unittest.main()
