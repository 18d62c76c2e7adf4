"""Helper of the tests: calls by name, answers call by call, the usual beginnings, and long mixed lines."""

import random

from freezersoverrun.freezers import answers

NAMES = (
    "begin freezer run stop thaw minutes cup cupfor fastest slowest cold flushed until ahead made yield need"
    " barrel look sums state"
).split()
LENGTHS = (2, 2, 4, 1, 1, 1, 2, 2, 2, 1, 2, 1, 3, 1, 1, 2, 2, 1, 1, 0, 0)
ON_A_FREEZER = ("run", "stop", "thaw", "fastest", "slowest", "cold", "flushed", "until", "barrel", "look")

MOST = 4294967295

NONE_SUCH = [-2]
NOT_FED = [-6]
NOT_BEGUN = [-11]
FROZEN_IN = [-16]
SO_ALREADY = [-17]
OUT_OF_RANGE = [-22]
TOO_MANY = [-28]
CANNOT_BE = [-33]

BEGUN = [("begin", 1000, 100)]


def line(calls):
    """The calls ("name", number, ..) as one list of whole numbers."""
    numbers = []
    for call in calls:
        code = NAMES.index(call[0])
        if len(call) != 1 + LENGTHS[code]:
            raise ValueError(f"{call[0]} takes {LENGTHS[code]} numbers")
        numbers.append(code)
        numbers.extend(call[1:])
    if not 1 <= len(calls) <= 400 or len(numbers) > 2000:
        raise ValueError("no such list is handed in")
    return numbers


def split(numbers):
    """What was answered, a list for each call."""
    found = []
    place = 0
    while place < len(numbers):
        end = place + 1 + numbers[place]
        if end > len(numbers):
            raise ValueError("an answer is cut off")
        found.append(numbers[place + 1:end])
        place = end
    return found


def play(calls):
    """The answers to a line of calls, a list for each."""
    return split(answers(line(calls)))


def last(calls):
    """The answer to the last call of a line."""
    return play(calls)[-1]


def works(*freezers, density=1000, coldest=100):
    """The calls that begin and set up freezers (kilograms, power)."""
    return [("begin", density, coldest)] + [("freezer", holds, power) for holds, power in freezers]


def frozen(feed=20):
    """The calls that lead to freezer 0 frozen in, still fed with flavour 3, so many kilograms in its barrel."""
    calls = works((100, 1000))
    if feed:
        calls += [("run", 0, 3, feed, 0), ("minutes", 1)]
    return calls + [("run", 0, 3, 1, 0), ("minutes", 1)]


# What each call's numbers are mostly drawn from.
USUAL = {
    "begin": ((900, 1200), (1, 120)),
    "freezer": ((1, 60), (1, 900)),
    "run": ((0, 4), (0, 4), (1, 30), (0, 200)),
    "stop": ((0, 4),),
    "thaw": ((0, 4),),
    "minutes": ((1, 9),),
    "cup": ((1, 10000), (1, 10000)),
    "cupfor": ((1, 10000), (0, 200)),
    "fastest": ((0, 4), (0, 60)),
    "slowest": ((0, 4),),
    "cold": ((0, 4), (1, 100)),
    "flushed": ((0, 4),),
    "until": ((0, 4), (0, 4), (0, 90)),
    "ahead": ((1, 30),),
    "made": ((0, 4),),
    "yield": ((0, 100000), (0, 200)),
    "need": ((0, 100000), (0, 200)),
    "barrel": ((0, 4),),
    "look": ((0, 4),),
    "sums": (),
    "state": (),
}
# The edges of every range that is told, and what lies beside them.
EDGES = (0, 1, 4, 5, 9, 10, 99, 100, 101, 199, 200, 201, 499, 500, 501, 899, 900, 1200, 1201, 9999, 10000, 10001, 20000,
         20001, 99999, 100000, 100001, MOST - 1, MOST)
DOING = ("run", "minutes") * 5 + ("freezer", "thaw", "stop") * 2
ASKING = tuple(NAMES[6:])


def drawn(source, name):
    """A call with numbers mostly of the usual ones, and now and then an edge among them."""
    numbers = [source.randint(low, high) for low, high in USUAL[name]]
    if numbers and source.random() < 0.05:
        numbers[source.randrange(len(numbers))] = source.choice(EDGES)
    return (name, *numbers)


def drawn_line(seed, length, names=DOING + ASKING):
    """A line of so many calls, the same one for the same seed: a begin, two freezers, then of the names."""
    source = random.Random(seed)
    calls = [drawn(source, "begin"), drawn(source, "freezer"), drawn(source, "freezer")]
    while len(calls) < length:
        calls.append(drawn(source, "begin" if source.random() < 0.004 else source.choice(names)))
    return calls
