"""The interface: how a list is gone through, -11 and -2, and that nothing is changed or kept."""

import unittest

from freezersoverrun.freezers import answers
from lines import (
    BEGUN, LENGTHS, MOST, NAMES, NONE_SUCH, NOT_BEGUN, ON_A_FREEZER, OUT_OF_RANGE, last, line, play, works,
)

LONG_LINE = works((30, 1000), (5, 300)) + [
    ("run", 0, 3, 20, 50), ("run", 1, 4, 7, 100), ("minutes", 9), ("run", 0, 5, 1, 0), ("minutes", 2), ("thaw", 0),
    ("cup", 1000, 500), ("cupfor", 1000, 100), ("fastest", 1, 3), ("slowest", 1), ("cold", 1, 3), ("run", 0, 5, 20, 0),
    ("flushed", 0), ("until", 0, 3, 5), ("ahead", 20), ("minutes", 1), ("made", 3), ("yield", 7, 33), ("need", 7, 33),
    ("barrel", 0), ("look", 0), ("sums",), ("state",), ("stop", 1),
]


def with_numbers(name, value):
    return (name,) + (value,) * LENGTHS[NAMES.index(name)]


class Form(unittest.TestCase):
    def test_counts_stand_before_the_answers(self):
        self.assertEqual(answers([0, 1000, 100, 1, 10, 50, 10, 0, 7, 5, 1]), [1, 0, 1, 0, 2, 7, 0, 3, 1, 0, 0])

    def test_a_refusal_stands_alone(self):
        self.assertEqual(answers([0, 1000, 100, 5, 0, 10, 0, 1, 8, 0, 1]), [1, 0, 1, -22, 1, -2, 1, -2])

    def test_whole_numbers_in_a_list(self):
        given = answers(line(LONG_LINE))
        self.assertIs(list, given.__class__)
        self.assertEqual({int}, {number.__class__ for number in given})

    def test_every_call_takes_as_many_numbers_as_told(self):
        for name in NAMES[1:]:
            for value in (0, 1, MOST):
                with self.subTest(name=name, value=value):
                    calls = BEGUN + [("freezer", 10, 50), with_numbers(name, value), ("cold", 0, 5)]
                    given = play(calls)
                    self.assertEqual(len(given), 4)
                    self.assertEqual(given[3], [10, 0])

    def test_four_hundred_calls(self):
        calls = works((500, 10000)) + [("run", 0, 1, 100, 200)] + [("minutes", 500)] * 397
        given = play(calls)
        self.assertEqual(len(given), 400)
        self.assertEqual(given[3], [500, 500 * 100 - 500, (500 * 100 - 500) * 30 * 100])
        self.assertEqual(given[-1], [500 * 397, 50000, 500 * 100 * 3000])


class BeforeBegin(unittest.TestCase):
    def test_every_other_call_answers_not_begun(self):
        for name in NAMES[1:]:
            for value in (0, 1, MOST):
                with self.subTest(name=name, value=value):
                    self.assertEqual(play([with_numbers(name, value)]), [NOT_BEGUN])

    def test_also_behind_a_begin_that_is_refused(self):
        for name in NAMES[1:]:
            with self.subTest(name=name):
                self.assertEqual(play([("begin", 899, 100), with_numbers(name, 1)]), [OUT_OF_RANGE, NOT_BEGUN])

    def test_what_was_not_begun_did_nothing(self):
        calls = [("freezer", 10, 50), ("minutes", 7)] + BEGUN + [("cold", 0, 5), ("minutes", 1)]
        self.assertEqual(play(calls), [NOT_BEGUN, NOT_BEGUN, [0], NONE_SUCH, [1, 0, 0]])


class NoSuchFreezer(unittest.TestCase):
    def test_first_of_all(self):
        for name in ON_A_FREEZER:
            for there in range(5):
                for number in (there, there + 1, MOST):
                    with self.subTest(name=name, there=there, number=number):
                        call = with_numbers(name, MOST)
                        calls = works(*[(10, 50)] * there) + [call[:1] + (number,) + call[2:]]
                        self.assertEqual(last(calls), NONE_SUCH)

    def test_the_last_one_is_there(self):
        for there in range(1, 5):
            with self.subTest(there=there):
                self.assertEqual(last(works(*[(10, 50)] * there) + [("cold", there - 1, 5)]), [10, 0])


class NothingKept(unittest.TestCase):
    def test_the_list_is_as_it_was(self):
        handed = line(LONG_LINE)
        before = list(handed)
        answers(handed)
        self.assertEqual(handed, before)

    def test_the_list_is_not_changed_for_a_while_either(self):
        class Fixed(list):
            def refuse(self, *args, **kwargs):
                raise RuntimeError("the list was changed")

            append = extend = insert = pop = remove = clear = sort = reverse = refuse
            __setitem__ = __delitem__ = __iadd__ = __imul__ = refuse

        self.assertEqual(answers(Fixed(line(LONG_LINE))), answers(line(LONG_LINE)))

    def test_the_same_again(self):
        handed = line(LONG_LINE)
        first = answers(handed)
        self.assertEqual(answers([2, 0, 1, 1, 1]), [1, -11])
        self.assertEqual(answers(handed), first)

    def test_what_is_given_back_belongs_to_the_caller(self):
        handed = line(LONG_LINE)
        first = answers(handed)
        kept = list(first)
        first.clear()
        self.assertEqual(answers(handed), kept)


class EveryCall(unittest.TestCase):
    # How many numbers an answer has that isn't a refusal, in the calls' order; barrel has two for each part besides.
    HOW_MANY = (1, 1, 1, 1, 1, 3, 1, 1, 2, 2, 2, 1, 1, 3, 2, 1, 1, 1, 6, 5, 4)

    def test_answers_as_many_numbers_as_told(self):
        seen = set()
        for call, answer in zip(LONG_LINE, play(LONG_LINE)):
            with self.subTest(call=call):
                parts = 2 if call[0] == "barrel" else 0
                self.assertEqual(len(answer), self.HOW_MANY[NAMES.index(call[0])] + 2 * parts)
                self.assertGreaterEqual(min(answer), 0)
            seen.add(call[0])
        self.assertEqual(seen, set(NAMES))


if __name__ == "__main__":
    unittest.main()
