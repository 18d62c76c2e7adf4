"""What holds over long lines of calls: a, d, e and f, and that asking changes nothing."""

import unittest

from lines import ASKING, BEGUN, DOING, drawn_line, play

FREEZERS = range(4)
ALL = (
    [("made", flavour) for flavour in range(10)] + [("sums",), ("state",)]
    + [(name, number) for name in ("barrel", "look", "flushed") for number in FREEZERS]
    + [("until", number, flavour, 9) for number in FREEZERS for flavour in range(5)]
    + [("ahead", 1), ("ahead", 7)]
)
FORETELLING = ("flushed", "until", "ahead")
SEEDS = range(30)


def doings(seed, length):
    """A line without questions, so that there's room for some; it's begun, even if what was drawn doesn't."""
    return BEGUN + drawn_line(seed, length, DOING)


def behind(calls, questions):
    """What the questions answer behind the calls, question by question."""
    return dict(zip(questions, play(calls + questions)[len(calls):]))


class EveryKilogram(unittest.TestCase):
    def test_is_in_a_barrel_or_has_come_out(self):
        for seed in SEEDS:
            for length in (40, 100, 200):
                with self.subTest(seed=seed, length=length):
                    self.check(behind(doings(seed, length), ALL))

    def check(self, told):
        nought, fed, inside, kilograms, millilitres = told[("sums",)]
        self.assertEqual(nought, 0)
        self.assertEqual(fed, inside + kilograms)
        made = [told[("made", flavour)] for flavour in range(10)]
        self.assertEqual([kilograms, millilitres], [sum(row[0] for row in made), sum(row[1] for row in made)])
        barrels = [told[("barrel", number)] for number in range(told[("state",)][1])]
        self.assertEqual(inside, sum(barrel[0] for barrel in barrels))
        for number, barrel in enumerate(barrels):
            self.check_barrel(barrel, told[("look", number)][4])

    def check_barrel(self, barrel, holds):
        self.assertEqual(barrel[0], sum(barrel[2::2]))
        self.assertLessEqual(barrel[0], holds)
        self.assertNotIn(0, barrel[2::2])
        flavours = barrel[1::2]
        self.assertTrue(all(one != other for one, other in zip(flavours, flavours[1:])))

    def test_came_out_in_the_minutes_that_told_it(self):
        for seed in SEEDS:
            calls = doings(seed, 200)
            given = play(calls + [("sums",)])
            start = max(place for place, call in enumerate(calls) if call[0] == "begin" and given[place] == [0])
            minutes = [row for call, row in zip(calls[start:], given[start:]) if call[0] == "minutes" and row[0] > 0]
            with self.subTest(seed=seed):
                self.assertEqual(given[-1][3:], [sum(row[1] for row in minutes), sum(row[2] for row in minutes)])


class FirstInFirstOut(unittest.TestCase):
    def test_what_was_fed_is_what_came_and_then_what_is_there(self):
        # Minute by minute the barrel's parts are those before with the new one behind, less some at the front.
        for seed in SEEDS:
            steps = [call[2:4] for call in doings(seed, 120) if call[0] == "run" and call[2] < 10 and 0 < call[3] <= 100]
            calls = [("begin", 1000, 500), ("freezer", 1 + seed, 100)]
            for flavour, rate in steps[:60]:
                calls += [("run", 0, flavour, rate, 0), ("minutes", 1), ("barrel", 0)]
            given = play(calls)
            row = []
            for place, (flavour, rate) in enumerate(steps[:60]):
                barrel = given[4 + 3 * place]
                row = (row + [flavour] * rate)[-(1 + seed):]
                there = [part for part, how_many in zip(barrel[1::2], barrel[2::2]) for each in range(how_many)]
                self.assertEqual(there, row, seed)


class AskingChangesNothing(unittest.TestCase):
    def check(self, names, seed):
        """The calls of a line that aren't of these names answer as in the line without those."""
        calls = drawn_line(seed, 250, DOING + names * 4)
        given = play(calls)
        others = [place for place, call in enumerate(calls) if call[0] not in names]
        self.assertLess(len(others), len(calls) - 20)
        with self.subTest(seed=seed, names=names):
            self.assertEqual([given[place] for place in others], play([calls[place] for place in others]))

    def test_flushed_until_and_ahead(self):
        for seed in SEEDS:
            self.check(FORETELLING, seed)

    def test_any_question(self):
        for seed in SEEDS:
            self.check(ASKING, seed)

    def test_every_other_call_behind_them(self):
        for seed in SEEDS:
            calls = doings(seed, 60)
            asked = [call for call in ALL if call[0] in FORETELLING]
            rest = ALL + [("thaw", 0), ("stop", 1), ("minutes", 5), ("run", 2, 1, 9, 9), ("minutes", 9), ("sums",)]
            with self.subTest(seed=seed):
                self.assertEqual(play(calls + asked + rest)[-len(rest):], play(calls + rest)[-len(rest):])


class RefusedChangesNothing(unittest.TestCase):
    def test_the_line_without_what_is_refused_answers_the_same(self):
        for seed in range(150):
            calls = BEGUN + drawn_line(seed, 200)
            given = play(calls)
            right = [place for place, answer in enumerate(given) if answer[0] >= 0]
            with self.subTest(seed=seed):
                self.assertEqual([given[place] for place in right], play([calls[place] for place in right]))


class ToldAheadIsWhatComes(unittest.TestCase):
    def test_ahead(self):
        seen = set()
        for seed in SEEDS:
            for length in (10, 30, 60):
                calls = doings(seed, length)
                for how_many in (1, 2, 13, 500):
                    told = play(calls + [("ahead", how_many)])[-1]
                    after = behind(calls + [("minutes", how_many)], [("look", number) for number in FREEZERS])
                    came = play(calls + [("minutes", how_many)])[-1]
                    if told[0] >= 0:
                        frozen = len([row for row in after.values() if row[0] >= 0 and row[3] == 1])
                        self.assertEqual(told, came[1:] + [frozen], (seed, length, how_many))
                        seen.add(frozen)
        self.assertLessEqual({0, 1, 2}, seen)

    def test_flushed(self):
        seen = set()
        for seed in SEEDS:
            calls = doings(seed, 40)
            for number in FREEZERS:
                told = play(calls + [("flushed", number)])[-1][0]
                seen.add(min(told, 1))
                if told >= 0:
                    self.assertTrue(self.nothing_else(calls, number, told), (seed, number))
                if told > 0:
                    self.assertFalse(self.nothing_else(calls, number, told - 1), (seed, number))
                if told == -33:
                    self.assertFalse(self.nothing_else(calls, number, 1000), (seed, number))
        self.assertLessEqual({-33, -6, -2, 0, 1}, seen)

    def nothing_else(self, calls, number, how_many):
        given = play(calls + self.pieces(how_many) + [("look", number), ("barrel", number)])
        return set(given[-1][1::2]) <= {given[-2][0] - 1}

    def test_until(self):
        seen = set()
        for seed in SEEDS:
            calls = doings(seed, 40)
            for number in FREEZERS:
                # Of the other freezers nothing comes, so that all that's made is of this one.
                alone = calls + [("stop", other) for other in FREEZERS if other != number]
                for flavour in range(5):
                    told = play(calls + [("until", number, flavour, 30)])[-1][0]
                    seen.add(min(told, 1))
                    if told > 0:
                        self.assertGreaterEqual(self.more(alone, flavour, told), 30000, (seed, number, flavour))
                        self.assertLess(self.more(alone, flavour, told - 1), 30000, (seed, number, flavour))
                    if told == -33:
                        self.assertLess(self.more(alone, flavour, 1000), 30000, (seed, number, flavour))
        self.assertLessEqual({-33, -2, 1}, seen)

    def more(self, calls, flavour, how_many):
        given = play(calls + [("made", flavour)] + self.pieces(how_many) + [("made", flavour)])
        return given[-1][1] - given[len(calls)][1]

    def pieces(self, how_many):
        return [("minutes", 500)] * (how_many // 500) + [("minutes", how_many % 500)] * (how_many % 500 > 0)


class InPieces(unittest.TestCase):
    def test_whatever_pieces_minutes_come_in(self):
        for seed in SEEDS:
            calls = doings(seed, 60)
            single = []
            for call in calls:
                whole = call[0] == "minutes" and 1 < call[1] <= 30
                single += [("minutes", 1)] * call[1] if whole else [call]
            with self.subTest(seed=seed):
                self.assertGreater(len(single), len(calls))
                self.assertEqual(behind(single, ALL), behind(calls, ALL))

    def test_one_long_time_in_many_ways(self):
        for seed in range(20):
            calls = doings(seed, 40)
            told = behind(calls + [("minutes", 60)], ALL)
            for pieces in ((1,) * 60, (59, 1), (1, 59), (20, 30, 10)):
                with self.subTest(seed=seed, pieces=pieces):
                    self.assertEqual(behind(calls + [("minutes", piece) for piece in pieces], ALL), told)


class TheSameAgain(unittest.TestCase):
    def test_two_times_the_same_list(self):
        for seed in SEEDS:
            calls = drawn_line(seed, 300)
            self.assertEqual(play(calls), play(calls), seed)


if __name__ == "__main__":
    unittest.main()
