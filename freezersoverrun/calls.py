"""The calls: each takes the works and its numbers, and gives back the list of numbers that it answers."""

from freezersoverrun.amounts import cup_air, cup_grams, how_cold, kilograms_for, volume, weighs_too_much
from freezersoverrun.barrel import weight
from freezersoverrun.works import FLAVOURS, Freezer, kilograms_out, millilitres_out

NONE_SUCH = -2
NOT_FED = -6
NOT_BEGUN = -11
FROZEN_IN = -16
SO_ALREADY = -17
OUT_OF_RANGE = -22
TOO_MANY = -28
CANNOT_BE = -33

BEGIN = 0

MOST_FREEZERS = 4
MOST_RATE = 100
MOST_AIR = 200
MOST_COLD = 500
MOST_MINUTES = 500
MOST_AHEAD = 1000
MOST_AMOUNT = 100000


def begin(works, numbers):
    density = numbers[0]
    coldest = numbers[1]
    if not 900 <= density <= 1200 or not 1 <= coldest <= MOST_COLD:
        return [OUT_OF_RANGE]
    works.start_anew(density, coldest)
    return [0]


def add_freezer(works, numbers):
    holds = numbers[0]
    power = numbers[1]
    if not 1 <= holds <= 500 or not 1 <= power <= 10000:
        return [OUT_OF_RANGE]
    if len(works.freezers) >= MOST_FREEZERS:
        return [TOO_MANY]
    works.freezers.append(Freezer(holds, power))
    return [len(works.freezers) - 1]


def run(works, numbers):
    freezer = works.freezers[numbers[0]]
    flavour = numbers[1]
    rate = numbers[2]
    air = numbers[3]
    if flavour >= FLAVOURS or not 1 <= rate <= MOST_RATE or air > MOST_AIR:
        return [OUT_OF_RANGE]
    if freezer.frozen:
        return [FROZEN_IN]
    before = freezer.fed_with
    freezer.fed_with = flavour + 1
    freezer.rate = rate
    freezer.air = air
    return [before]


def stop(works, numbers):
    freezer = works.freezers[numbers[0]]
    if freezer.fed_with == 0:
        return [NOT_FED]
    flavour = freezer.fed_with - 1
    freezer.fed_with = 0
    return [flavour]


def thaw(works, numbers):
    freezer = works.freezers[numbers[0]]
    if not freezer.frozen:
        return [SO_ALREADY]
    freezer.frozen = False
    freezer.fed_with = 0
    return [weight(freezer.parts)]


def minutes(works, numbers):
    how_many = numbers[0]
    if not 1 <= how_many <= MOST_MINUTES:
        return [OUT_OF_RANGE]
    kilograms = kilograms_out(works.freezers)
    millilitres = millilitres_out(works.freezers)
    works.minute += how_many
    works.let_pass(works.freezers, how_many)
    return [works.minute, kilograms_out(works.freezers) - kilograms, millilitres_out(works.freezers) - millilitres]


def cup(works, numbers):
    millilitres = numbers[0]
    grams = numbers[1]
    if not 1 <= millilitres <= 10000 or not 1 <= grams <= 20000:
        return [OUT_OF_RANGE]
    if weighs_too_much(millilitres, grams, works.density):
        return [CANNOT_BE]
    return [cup_air(millilitres, grams, works.density)]


def cupfor(works, numbers):
    millilitres = numbers[0]
    air = numbers[1]
    if not 1 <= millilitres <= 10000 or air > MOST_AIR:
        return [OUT_OF_RANGE]
    return [cup_grams(millilitres, air, works.density)]


def fastest(works, numbers):
    freezer = works.freezers[numbers[0]]
    wanted = numbers[1]
    if wanted > MOST_COLD:
        return [OUT_OF_RANGE]
    for rate in range(MOST_RATE, 0, -1):
        tenths = how_cold(freezer.power, rate)
        if wanted <= tenths <= works.coldest:
            return [rate, tenths]
    return [CANNOT_BE]


def slowest(works, numbers):
    freezer = works.freezers[numbers[0]]
    for rate in range(1, MOST_RATE + 1):
        tenths = how_cold(freezer.power, rate)
        if tenths <= works.coldest:
            return [rate, tenths]
    return [CANNOT_BE]


def cold(works, numbers):
    freezer = works.freezers[numbers[0]]
    rate = numbers[1]
    if not 1 <= rate <= MOST_RATE:
        return [OUT_OF_RANGE]
    tenths = how_cold(freezer.power, rate)
    return [tenths, 1 if tenths > works.coldest else 0]


def flushed(works, numbers):
    freezer = works.freezers[numbers[0]]
    if freezer.fed_with == 0:
        return [NOT_FED]
    twin = freezer.twin()
    for minute in range(MOST_AHEAD + 1):
        if twin.has_nothing_else():
            return [minute]
        twin.pass_minute(works.density, works.coldest)
    return [CANNOT_BE]


def until(works, numbers):
    freezer = works.freezers[numbers[0]]
    flavour = numbers[1]
    litres = numbers[2]
    if flavour >= FLAVOURS or litres > MOST_AMOUNT:
        return [OUT_OF_RANGE]
    twin = freezer.twin()
    for minute in range(MOST_AHEAD + 1):
        if twin.millilitres[flavour] >= 1000 * litres:
            return [minute]
        twin.pass_minute(works.density, works.coldest)
    return [CANNOT_BE]


def ahead(works, numbers):
    how_many = numbers[0]
    if not 1 <= how_many <= MOST_MINUTES:
        return [OUT_OF_RANGE]
    twins = [freezer.twin() for freezer in works.freezers]
    works.let_pass(twins, how_many)
    frozen = [twin for twin in twins if twin.frozen]
    return [kilograms_out(twins), millilitres_out(twins), len(frozen)]


def made(works, numbers):
    flavour = numbers[0]
    if flavour >= FLAVOURS:
        return [OUT_OF_RANGE]
    kilograms = sum([freezer.kilograms[flavour] for freezer in works.freezers])
    millilitres = sum([freezer.millilitres[flavour] for freezer in works.freezers])
    return [kilograms, millilitres]


def yielded(works, numbers):
    kilograms = numbers[0]
    air = numbers[1]
    if kilograms > MOST_AMOUNT or air > MOST_AIR:
        return [OUT_OF_RANGE]
    return [volume(kilograms, air, works.density)]


def need(works, numbers):
    litres = numbers[0]
    air = numbers[1]
    if litres > MOST_AMOUNT or air > MOST_AIR:
        return [OUT_OF_RANGE]
    return [kilograms_for(litres, air, works.density)]


def show_barrel(works, numbers):
    freezer = works.freezers[numbers[0]]
    answered = [weight(freezer.parts)]
    for part in freezer.parts:
        answered.append(part[0])
        answered.append(part[1])
    return answered


def look(works, numbers):
    freezer = works.freezers[numbers[0]]
    frozen = 1 if freezer.frozen else 0
    return [freezer.fed_with, freezer.rate, freezer.air, frozen, freezer.holds, freezer.power]


def sums(works, numbers):
    fed = sum([freezer.total_fed for freezer in works.freezers])
    inside = sum([weight(freezer.parts) for freezer in works.freezers])
    return [0, fed, inside, kilograms_out(works.freezers), millilitres_out(works.freezers)]


def state(works, numbers):
    return [works.minute, len(works.freezers), works.density, works.coldest]


# The calls by their numbers.
CALLS = {
    0: begin,
    1: add_freezer,
    2: run,
    3: stop,
    4: thaw,
    5: minutes,
    6: cup,
    7: cupfor,
    8: fastest,
    9: slowest,
    10: cold,
    11: flushed,
    12: until,
    13: ahead,
    14: made,
    15: yielded,
    16: need,
    17: show_barrel,
    18: look,
    19: sums,
    20: state,
}

# How many numbers each call takes, by its number: a list is gone through by these.
LENGTHS = (2, 2, 4, 1, 1, 1, 2, 2, 2, 1, 2, 1, 3, 1, 1, 2, 2, 1, 1, 0, 0)

# The calls whose first number is a freezer.
ON_A_FREEZER = (2, 3, 4, 8, 9, 10, 11, 12, 17, 18)


def numbers_of(call):
    """How many numbers the call takes."""
    return LENGTHS[call]


def answer(works, call, numbers):
    """What one call answers."""
    if call != BEGIN and not works.begun:
        return [NOT_BEGUN]
    if call in ON_A_FREEZER and numbers[0] >= len(works.freezers):
        return [NONE_SUCH]
    handler = CALLS[call]
    return handler(works, numbers)
