"""What's kept from call to call: the works, and its freezers."""

from freezersoverrun.amounts import how_cold, volume
from freezersoverrun.barrel import draw, feed, weight

FLAVOURS = 10


class Freezer:
    """One freezer with its barrel. What it's fed with is kept as the flavour and one, 0 for none."""

    def __init__(self, holds, power):
        self.holds = holds
        self.power = power
        self.fed_with = 0
        self.rate = 1
        self.air = 0
        self.frozen = False
        self.parts = []
        self.total_fed = 0
        self.kilograms = [0] * FLAVOURS
        self.millilitres = [0] * FLAVOURS

    def twin(self):
        """A freezer as this one is now, of which nothing has come yet: it shows what comes if nothing's done."""
        other = Freezer(self.holds, self.power)
        other.fed_with = self.fed_with
        other.rate = self.rate
        other.air = self.air
        other.frozen = self.frozen
        other.parts = list(self.parts)
        return other

    def has_nothing_else(self):
        """Whether nothing but the flavour that it's fed with is in its barrel."""
        return all([part[0] == self.fed_with - 1 for part in self.parts])

    def pass_minute(self, density, coldest):
        """Let a minute go by, and count what's fed and, flavour by flavour, what comes out."""
        if self.fed_with == 0 or self.frozen:
            return
        if how_cold(self.power, self.rate) > coldest:
            self.frozen = True
            return
        feed(self.parts, self.fed_with - 1, self.rate)
        self.total_fed += self.rate
        came = draw(self.parts, weight(self.parts) - self.holds)
        for part in came:
            self.kilograms[part[0]] += part[1]
            self.millilitres[part[0]] += volume(part[1], self.air, density)


class Works:
    """All freezers, the mix's grams a litre, and how cold it may be; not begun at first."""

    def __init__(self):
        self.begun = False
        self.density = 0
        self.coldest = 0
        self.minute = 0
        self.freezers = []

    def start_anew(self, density, coldest):
        """Begin with nothing, at minute 0."""
        self.begun = True
        self.density = density
        self.coldest = coldest
        self.minute = 0
        self.freezers = []

    def let_pass(self, freezers, how_many):
        """Let minutes go by for these freezers, the works' own or twins of them."""
        # No freezer touches another, so each may go through all the minutes by itself.
        for freezer in freezers:
            for step in range(how_many):
                freezer.pass_minute(self.density, self.coldest)


def kilograms_out(freezers):
    """How many kilograms came out of all these freezers."""
    return sum([sum(freezer.kilograms) for freezer in freezers])


def millilitres_out(freezers):
    """How many millilitres came out of all these freezers."""
    return sum([sum(freezer.millilitres) for freezer in freezers])
