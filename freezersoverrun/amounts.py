"""The sums about cold, air, grams and millilitres. A density is the mix's grams a litre."""


def how_cold(power, rate):
    """So many tenths below 0 is it drawn at this rate."""
    return power // rate


def volume(kilograms, air, density):
    """The millilitres of so many kilograms with so many hundredths of air."""
    return kilograms * 10000 * (100 + air) // density


def kilograms_for(litres, air, density):
    """The fewest kilograms that have so many litres, or more, with so many hundredths of air."""
    # The 10,000 of volume and the 1,000 millilitres of a litre leave the 10.
    divisor = 10 * (100 + air)
    return (litres * density + divisor - 1) // divisor


def weighs_too_much(millilitres, grams, density):
    """Whether a cup weighs more than as many millilitres of mix without air."""
    return 1000 * grams > millilitres * density


def cup_air(millilitres, grams, density):
    """The hundredths of air in a cup that doesn't weigh too much."""
    return (millilitres * density - 1000 * grams) // (10 * grams)


def cup_grams(millilitres, air, density):
    """The fewest grams with which a cup has no more air than this."""
    # Not by way of cup_air: that rounds down, and a cup with a little more air than told would pass.
    divisor = 1000 + 10 * air
    return (millilitres * density + divisor - 1) // divisor
