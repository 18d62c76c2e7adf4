"""The interface: a list of calls on one new object, and what they answer."""

from freezersoverrun.calls import answer, numbers_of
from freezersoverrun.works import Works


def answers(calls):
    """For each call, in order, how many numbers it answers, then these."""
    works = Works()
    result = []
    place = 0
    while place < len(calls):
        call = calls[place]
        end = place + 1 + numbers_of(call)
        answered = answer(works, call, calls[place + 1:end])
        result.append(len(answered))
        result.extend(answered)
        place = end
    return result
