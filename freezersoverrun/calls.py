"""The calls: each takes the works and its numbers, and gives back the list of numbers that it answers."""

from freezersoverrun.amounts import cup_air, cup_grams, how_cold, weighs_too_much
from freezersoverrun.barrel import weight
from freezersoverrun.works import Freezer

NONE_SUCH = -2
NOT_FED = -6
NOT_BEGUN = -11
FROZEN_IN = -16
SO_ALREADY = -17
OUT_OF_RANGE = -22
TOO_MANY = -28
CANNOT_BE = -33

BEGIN = 0

MOST_FREEZERS = 4
MOST_FLAVOUR = 9
MOST_RATE = 100
MOST_AIR = 200
MOST_COLD = 500
MOST_MINUTES = 500


def begin(works, numbers):
    density = numbers[0]
    coldest = numbers[1]
    if not 900 <= density <= 1200 or not 1 <= coldest <= MOST_COLD:
        return [OUT_OF_RANGE]
    works.start_anew(density, coldest)
    return [0]


def add_freezer(works, numbers):
    holds = numbers[0]
    power = numbers[1]
    if not 1 <= holds <= 500 or not 1 <= power <= 10000:
        return [OUT_OF_RANGE]
    if len(works.freezers) >= MOST_FREEZERS:
        return [TOO_MANY]
    works.freezers.append(Freezer(holds, power))
    return [len(works.freezers) - 1]


def run(works, numbers):
    freezer = works.freezers[numbers[0]]
    flavour = numbers[1]
    rate = numbers[2]
    air = numbers[3]
    if flavour > MOST_FLAVOUR or not 1 <= rate <= MOST_RATE or air > MOST_AIR:
        return [OUT_OF_RANGE]
    if freezer.frozen:
        return [FROZEN_IN]
    before = freezer.fed_with
    freezer.fed_with = flavour + 1
    freezer.rate = rate
    freezer.air = air
    return [before]


def stop(works, numbers):
    freezer = works.freezers[numbers[0]]
    if freezer.fed_with == 0:
        return [NOT_FED]
    flavour = freezer.fed_with - 1
    freezer.fed_with = 0
    return [flavour]


def thaw(works, numbers):
    freezer = works.freezers[numbers[0]]
    if not freezer.frozen:
        return [SO_ALREADY]
    freezer.frozen = False
    freezer.fed_with = 0
    return [weight(freezer.parts)]


def minutes(works, numbers):
    how_many = numbers[0]
    if not 1 <= how_many <= MOST_MINUTES:
        return [OUT_OF_RANGE]
    came = works.pass_minutes(how_many)
    return [works.minute, came[0], came[1]]


def cup(works, numbers):
    millilitres = numbers[0]
    grams = numbers[1]
    if not 1 <= millilitres <= 10000 or not 1 <= grams <= 20000:
        return [OUT_OF_RANGE]
    if weighs_too_much(millilitres, grams, works.density):
        return [CANNOT_BE]
    return [cup_air(millilitres, grams, works.density)]


def cupfor(works, numbers):
    millilitres = numbers[0]
    air = numbers[1]
    if not 1 <= millilitres <= 10000 or air > MOST_AIR:
        return [OUT_OF_RANGE]
    return [cup_grams(millilitres, air, works.density)]


def fastest(works, numbers):
    freezer = works.freezers[numbers[0]]
    wanted = numbers[1]
    if wanted > MOST_COLD:
        return [OUT_OF_RANGE]
    for rate in range(MOST_RATE, 0, -1):
        tenths = how_cold(freezer.power, rate)
        if wanted <= tenths <= works.coldest:
            return [rate, tenths]
    return [CANNOT_BE]


def slowest(works, numbers):
    freezer = works.freezers[numbers[0]]
    for rate in range(1, MOST_RATE + 1):
        tenths = how_cold(freezer.power, rate)
        if tenths <= works.coldest:
            return [rate, tenths]
    return [CANNOT_BE]


def cold(works, numbers):
    freezer = works.freezers[numbers[0]]
    rate = numbers[1]
    if not 1 <= rate <= MOST_RATE:
        return [OUT_OF_RANGE]
    tenths = how_cold(freezer.power, rate)
    return [tenths, 1 if tenths > works.coldest else 0]


# The calls by their numbers; those from 11 on are still to come.
CALLS = {
    0: begin,
    1: add_freezer,
    2: run,
    3: stop,
    4: thaw,
    5: minutes,
    6: cup,
    7: cupfor,
    8: fastest,
    9: slowest,
    10: cold,
}

# How many numbers each call takes, by its number, also those still to come: a list is gone through by these.
LENGTHS = (2, 2, 4, 1, 1, 1, 2, 2, 2, 1, 2, 1, 3, 1, 1, 2, 2, 1, 1, 0, 0)

# The calls whose first number is a freezer, also those still to come.
ON_A_FREEZER = (2, 3, 4, 8, 9, 10, 11, 12, 17, 18)


def numbers_of(call):
    """How many numbers the call takes."""
    return LENGTHS[call]


def answer(works, call, numbers):
    """What one call answers; nothing at all if it's one that's still to come."""
    if call != BEGIN and not works.begun:
        return [NOT_BEGUN]
    if call in ON_A_FREEZER and numbers[0] >= len(works.freezers):
        return [NONE_SUCH]
    if call not in CALLS:
        return []
    handler = CALLS[call]
    return handler(works, numbers)
