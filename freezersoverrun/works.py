"""What's kept from call to call: the works, and its freezers."""

from freezersoverrun.amounts import how_cold, volume
from freezersoverrun.barrel import draw, feed, weight


class Freezer:
    """One freezer with its barrel. What it's fed with is kept as the flavour and one, 0 for none."""

    def __init__(self, holds, power):
        self.holds = holds
        self.power = power
        self.fed_with = 0
        self.rate = 1
        self.air = 0
        self.frozen = False
        self.parts = []

    def pass_minute(self, density, coldest):
        """Let a minute go by, and give back what came out, part by part: (flavour, kilograms, millilitres)."""
        if self.fed_with == 0 or self.frozen:
            return []
        if how_cold(self.power, self.rate) > coldest:
            self.frozen = True
            return []
        feed(self.parts, self.fed_with - 1, self.rate)
        came = draw(self.parts, weight(self.parts) - self.holds)
        return [(part[0], part[1], volume(part[1], self.air, density)) for part in came]


class Works:
    """All freezers, the mix's grams a litre, and how cold it may be; not begun at first."""

    def __init__(self):
        self.begun = False
        self.density = 0
        self.coldest = 0
        self.minute = 0
        self.freezers = []

    def start_anew(self, density, coldest):
        """Begin with nothing, at minute 0."""
        self.begun = True
        self.density = density
        self.coldest = coldest
        self.minute = 0
        self.freezers = []

    def pass_minutes(self, how_many):
        """Let minutes go by, and give back how many kilograms and millilitres came out in them."""
        kilograms = 0
        millilitres = 0
        self.minute += how_many
        # No freezer touches another, so each may go through all the minutes by itself.
        for freezer in self.freezers:
            for step in range(how_many):
                for part in freezer.pass_minute(self.density, self.coldest):
                    kilograms += part[1]
                    millilitres += part[2]
        return (kilograms, millilitres)
