"""Helper of the tests: calls by name, answers call by call, and the usual beginnings."""

from freezersoverrun.freezers import answers

NAMES = (
    "begin freezer run stop thaw minutes cup cupfor fastest slowest cold flushed until ahead made yield need"
    " barrel look sums state"
).split()
LENGTHS = (2, 2, 4, 1, 1, 1, 2, 2, 2, 1, 2, 1, 3, 1, 1, 2, 2, 1, 1, 0, 0)
LATER = NAMES[11:]

MOST = 4294967295

NONE_SUCH = [-2]
NOT_FED = [-6]
NOT_BEGUN = [-11]
FROZEN_IN = [-16]
SO_ALREADY = [-17]
OUT_OF_RANGE = [-22]
TOO_MANY = [-28]
CANNOT_BE = [-33]

BEGUN = [("begin", 1000, 100)]


def line(calls):
    """The calls ("name", number, ..) as one list of whole numbers."""
    numbers = []
    for call in calls:
        code = NAMES.index(call[0])
        if len(call) != 1 + LENGTHS[code]:
            raise ValueError(f"{call[0]} takes {LENGTHS[code]} numbers")
        numbers.append(code)
        numbers.extend(call[1:])
    return numbers


def split(numbers):
    """What was answered, a list for each call."""
    found = []
    place = 0
    while place < len(numbers):
        end = place + 1 + numbers[place]
        if end > len(numbers):
            raise ValueError("an answer is cut off")
        found.append(numbers[place + 1:end])
        place = end
    return found


def play(calls):
    """The answers to a line of calls, a list for each."""
    return split(answers(line(calls)))


def last(calls):
    """The answer to the last call of a line."""
    return play(calls)[-1]


def works(*freezers, density=1000, coldest=100):
    """The calls that begin and set up freezers (kilograms, power)."""
    return [("begin", density, coldest)] + [("freezer", holds, power) for holds, power in freezers]


def frozen(feed=20):
    """The calls that lead to freezer 0 frozen in, still fed with flavour 3, so many kilograms in its barrel."""
    calls = works((100, 1000))
    if feed:
        calls += [("run", 0, 3, feed, 0), ("minutes", 1)]
    return calls + [("run", 0, 3, 1, 0), ("minutes", 1)]
