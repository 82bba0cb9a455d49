"""undo, redo and begin: what is as it was, what is remembered, what is forgotten."""

import unittest
from random import Random

from tests.helper import (BOUND, away, back, begin, binds, check_nothing_changed, clears, could, flat, giver, goings,
                          how_many_givers, judge, last, limits, looks, lost, order, parts, passes, prices, probes,
                          proof, quarter, ramps, redo, rule, run, state, sums, told, told_of, undo)

BEFORE = [giver(start=5, wait=2), giver(kind=1, up=60, worth=4), order(8, 0, 9, 50), order(1, 0, 9, 20),
          ramps(90, 30), quarter(30, 30)]
CHANGES = {'giver': giver(kind=2), 'away': away(1, 1), 'ramps': ramps(7, 8), 'rule': rule(1),
           'order': order(0, 0, 9, 3), 'back': back(1), 'quarter': quarter(40, 40)}
NO_CHANGES = {'away': away(0, 0), 'ramps': ramps(90, 30), 'rule': rule(0)}
REFUSALS = [giver(kind=8), giver(table=()), away(0, 2), away(9, 1), rule(2), order(9, 0, 1, 1), order(8, 0, 1, 1),
            back(9), quarter(), could(), parts(2, 1, 1), judge([], []), prices(), proof([], [], []), lost(9),
            told_of(9), binds(), clears(), state(9), passes(9, 1)]
ASKS = [could(9, 9), limits(), parts(0, 9, 9), parts(1, 9, 9), judge([9, 9], [9, 9]), prices(9, 9),
        proof([9, 9], [9, 9], [0] * 9), lost(0), told_of(0), binds(99, 99), clears(99, 99), state(0), sums(),
        passes(0, 9)]


def behind(calls, *asked):
    """What is answered to those asked behind the calls."""
    return run(*calls, *asked)[len(calls):]


class AsItWas(unittest.TestCase):
    """Promise 6."""

    def check_same(self, calls, others):
        """All is the same behind both rows of calls, but what can be redone."""
        how_many = how_many_givers(others)
        asked = looks(how_many) + goings(how_many)
        self.assertEqual(behind(calls, *asked), behind(others, *asked))

    def test_each_of_the_seven_calls(self):
        for name, change in CHANGES.items():
            with self.subTest(call=name):
                self.assertGreaterEqual(last(*BEFORE, change)[0], 0)
                how_many = how_many_givers(BEFORE)
                self.assertNotEqual(behind(BEFORE + [change], *looks(how_many), *goings(how_many)),
                                    behind(BEFORE, *looks(how_many), *goings(how_many)))
                self.assertEqual(last(*BEFORE, change, undo()), [0])
                self.check_same(BEFORE + [change, undo()], BEFORE)
                self.assertEqual(last(*BEFORE, change, undo(), redo()), [0])
                self.check_same(BEFORE + [change, undo(), redo()], BEFORE + [change])
                self.check_same(BEFORE + [change, undo(), redo(), undo()], BEFORE)

    def test_those_that_changed_nothing_are_undone_too(self):
        for name, change in NO_CHANGES.items():
            with self.subTest(call=name):
                self.check_same(BEFORE + [change, undo()], BEFORE)
                self.check_same(BEFORE + [change, undo(), undo()], BEFORE[:-1])
                self.check_same(BEFORE + [change, undo(), undo(), redo()], BEFORE)
        self.assertEqual(behind([quarter(), undo()], sums(), undo()), [told(0, 0, 0, 0), [-2]])
        self.assertEqual(behind([ramps(BOUND, BOUND), undo()], undo()), [[-2]])

    def test_what_is_answered_with_0_or_more(self):
        self.assertEqual(run(giver(), undo(), undo()), [[0], [0], [-2]])
        self.assertEqual(run(quarter(), undo(), undo()), [[0, 0], [0], [-2]])
        self.assertEqual(run(giver(), quarter(7), undo(), undo(), undo()), [[0], told(7, 7), [0], [0], [-2]])

    def test_numbers_are_given_again(self):
        self.assertEqual(run(giver(), giver(), undo(), giver(), state(2)), [[0], [1], [0], [1], [-1]])
        self.assertEqual(run(order(8, 0, 9, 1), undo(), order(0, 0, 9, 2), told_of(0)),
                         [[0], [0], [0], told(0, 0, 0, 9, 2, 0, -1)])

    def test_what_quarters_counted_is_uncounted(self):
        calls = [giver(), order(8, 0, 9, 4), quarter(10), quarter(10), undo()]
        self.assertEqual(behind(calls, lost(0), sums(), state(0)), [told(6, 1), told(1, 10, 4, 6), told(1, 0, 4, 4, 0)])
        self.assertEqual(behind(calls + [undo()], lost(0), sums(), state(0)),
                         [told(0, 0), told(0, 0, 0, 0), told(0, 0, 0, 0, 0)])
        self.assertEqual(behind(calls + [redo()], lost(0), sums(), state(0)),
                         [told(12, 2), told(2, 20, 8, 12), told(1, 0, 4, 8, 0)])

    def test_an_order_that_was_over_is_not(self):
        calls = [order(8, 0, 1, 5), quarter()]
        self.assertEqual(behind(calls, back(0), undo(), back(0), told_of(0)), [[-2], [0], [0], told(0, 8, 0, 1, 5, 0, 0)])

    def test_an_order_taken_back_holds_again(self):
        self.assertEqual(behind([giver(), order(8, 0, 9, 5), back(0), undo()], quarter(9), told_of(0)),
                         [told(5, 5), told(0, 8, 0, 9, 5, 0, -1)])

    def test_one_that_was_away_runs_and_waits_again(self):
        calls = [giver(start=5, wait=3), giver(), quarter(9, 9), away(0, 1), away(1, 1), undo(), undo()]
        self.assertEqual(behind(calls, state(0), state(1)), [told(0, 1, 0, 0, 0), told(1, 0, 9, 9, 0)])


class Last(unittest.TestCase):
    def test_of_several_the_last_one_first(self):
        calls = [giver(), giver(), giver()]
        self.assertEqual(behind(calls, undo(), state(2), state(1), undo(), state(1), state(0), undo(), state(0), undo()),
                         [[0], [-1], told(0, 0, 0, 0, 0), [0], [-1], told(0, 0, 0, 0, 0), [0], [-1], [-2]])

    def test_what_the_last_undo_took_away_comes_first(self):
        calls = [giver(), giver(), undo(), undo()]
        self.assertEqual(behind(calls, redo(), quarter(9))[1], told(9, 9))
        self.assertEqual(behind(calls, redo(), redo(), quarter(9, 8), redo()), [[0], [0], told(17, 9, 8), [-2]])

    def test_nothing_to_undo_or_redo(self):
        self.assertEqual(run(undo(), redo(), undo()), [[-2], [-2], [-2]])
        self.assertEqual(run(giver(), redo()), [[0], [-2]])
        self.assertEqual(run(giver(), undo(), redo(), redo()), [[0], [0], [0], [-2]])

    def test_such_a_refusal_changes_nothing(self):
        check_nothing_changed(self, BEFORE, redo(), [-2])
        check_nothing_changed(self, [], undo(), [-2])
        check_nothing_changed(self, [giver(), giver(), undo(), undo()], undo(), [-2])
        self.assertEqual(run(giver(), undo(), undo(), redo(), state(0)), [[0], [0], [-2], [0], told(0, 0, 0, 0, 0)])

    def test_refusals_and_asks_are_not_undone(self):
        for call in REFUSALS + ASKS:
            with self.subTest(call=call[0]):
                answer = last(*BEFORE, call)
                self.assertEqual(answer[0] < 0, call in REFUSALS)
                check_nothing_changed(self, BEFORE, call, answer)
        self.assertEqual(behind(BEFORE + REFUSALS + ASKS, *[undo()] * 7), [[0]] * 6 + [[-2]])

    def test_refusals_and_asks_leave_what_can_be_redone(self):
        undone = BEFORE + [giver(), rule(1), undo(), undo()]
        for call in REFUSALS + ASKS:
            with self.subTest(call=call[0]):
                check_nothing_changed(self, undone, call, last(*BEFORE, call))
        self.assertEqual(behind(undone + REFUSALS + ASKS, redo(), redo(), redo()), [[0], [0], [-2]])

    def test_another_change_leaves_nothing_to_redo(self):
        for change in list(CHANGES.values()) + list(NO_CHANGES.values()):
            with self.subTest(call=change[0]):
                calls = BEFORE + [giver(), rule(1), undo(), undo(), change]
                self.assertEqual(behind(calls, redo()), [[-2]])
                self.assertEqual(behind(calls, redo(), *[undo()] * 8), [[-2]] + [[0]] * 7 + [[-2]])

    def test_undo_another_change_undo_redo(self):
        calls = [giver(most=1), undo(), giver(most=2), undo(), redo()]
        self.assertEqual(behind(calls, passes(0, BOUND * 1000), redo(), undo(), undo()), [[2], [-2], [0], [-2]])


class Remembered(unittest.TestCase):
    """Each change here is a quarter, so the first number of sums tells how many of them there are."""

    def counts(self, *calls):
        """How many quarters there are behind each undo and redo; -2 where it is refused."""
        asked = [one for call in calls for one in (call, sums())]
        answered = run(*asked)
        return [answered[at + 1][0] if answered[at] == [0] else answered[at][0]
                for at in range(0, len(asked), 2) if asked[at][0] in (20, 21)]

    def test_16_are(self):
        calls = [quarter()] * 16 + [undo()] * 18
        self.assertEqual(self.counts(*calls), list(range(15, -1, -1)) + [-2, -2])

    def test_with_a_17th_the_earliest_is_forgotten(self):
        calls = [quarter()] * 17 + [undo()] * 18
        self.assertEqual(self.counts(*calls), list(range(16, 0, -1)) + [-2, -2])
        calls = [quarter()] * 40 + [undo()] * 17
        self.assertEqual(self.counts(*calls), list(range(39, 23, -1)) + [-2])

    def test_15_are(self):
        self.assertEqual(self.counts(*[quarter()] * 15 + [undo()] * 16), list(range(14, -1, -1)) + [-2])

    def test_all_16_can_be_redone(self):
        calls = [quarter()] * 17 + [undo()] * 16 + [redo()] * 17
        self.assertEqual(self.counts(*calls)[16:], list(range(2, 18)) + [-2])

    def test_what_is_forgotten_is_so_for_good(self):
        calls = [quarter()] * 17 + [undo()] * 17 + [redo()] * 17 + [undo()] * 17
        self.assertEqual(self.counts(*calls)[34:], list(range(16, 0, -1)) + [-2])
        calls = [quarter()] * 17 + [undo()] * 10 + [quarter()] + [undo()] * 8
        self.assertEqual(self.counts(*calls)[10:], list(range(7, 0, -1)) + [-2])

    def test_those_undone_are_not_counted(self):
        calls = [quarter()] * 16 + [undo(), quarter()] + [undo()] * 17
        self.assertEqual(self.counts(*calls)[1:], list(range(15, -1, -1)) + [-2])
        calls = [quarter()] * 16 + [undo()] * 9 + [quarter()] * 9 + [undo()] * 17
        self.assertEqual(self.counts(*calls)[9:], list(range(15, -1, -1)) + [-2])
        calls = [quarter()] * 16 + [undo()] * 9 + [quarter()] * 10 + [undo()] * 17
        self.assertEqual(self.counts(*calls)[9:], list(range(16, 0, -1)) + [-2])

    def test_by_turns_through_more_than_16(self):
        calls = [quarter()] * 30 + ([undo()] * 16 + [redo()] * 16) * 4 + [undo()] * 17
        turn = list(range(29, 13, -1)) + list(range(15, 31))
        self.assertEqual(self.counts(*calls), turn * 4 + list(range(29, 13, -1)) + [-2])
        calls = ([quarter(), undo(), redo()] * 40) + [undo()] * 17
        counted = [count for number in range(40) for count in (number, number + 1)]
        self.assertEqual(self.counts(*calls), counted + list(range(39, 23, -1)) + [-2])

    def test_refusals_and_asks_push_nothing_out(self):
        between = [quarter(1), sums(), back(0), redo()]
        calls = [quarter()] * 16 + between * 20 + [undo()] * 17
        self.assertEqual(self.counts(*calls)[20:], list(range(15, -1, -1)) + [-2])

    def test_those_that_changed_nothing_push_others_out(self):
        calls = [quarter()] * 3 + [rule(0)] * 14 + [undo()] * 17
        self.assertEqual(self.counts(*calls), [3] * 14 + [2, 1] + [-2])

    def test_the_desk_behind_the_last_that_is_remembered(self):
        calls = [giver(most=number) for number in range(20)] + [undo()] * 17
        self.assertEqual(behind(calls, state(3), state(4), quarter(9, 9, 9, 9)),
                         [told(0, 0, 0, 0, 0), [-1], told(6, 0, 1, 2, 3)])


class Begin(unittest.TestCase):
    def test_all_is_as_at_the_beginning(self):
        for before in (BEFORE, BEFORE + [rule(1), undo(), undo()], [quarter()] * 20, []):
            self.assertEqual(last(*before, begin()), [0])
            self.assertEqual(behind(before + [begin()], *probes(0)), run(*probes(0)))
            self.assertEqual(behind(before + [begin()], *BEFORE, *probes(2)), run(*BEFORE, *probes(2)))

    def test_nothing_can_be_undone_or_redone(self):
        self.assertEqual(behind(BEFORE, begin(), undo(), redo()), [[0], [-2], [-2]])
        self.assertEqual(behind(BEFORE + [undo(), undo()], begin(), redo(), undo()), [[0], [-2], [-2]])

    def test_what_comes_behind_it_is_remembered(self):
        self.assertEqual(behind(BEFORE, begin(), giver(), undo(), undo(), redo(), redo()),
                         [[0], [0], [0], [-2], [0], [-2]])
        calls = [quarter()] * 10 + [begin()] + [quarter()] * 16 + [undo()] * 17
        self.assertEqual(behind(calls, sums(), redo(), sums()), [told(0, 0, 0, 0), [0], told(1, 0, 0, 0)])

    def test_twice(self):
        self.assertEqual(run(begin(), begin(), undo(), giver()), [[0], [0], [-2], [0]])

    def test_24_givers_and_32_orders_again(self):
        full = [giver()] * 24 + [order(8, 0, 9, 1)] * 32
        self.assertEqual(run(*full, begin(), *full)[57:], run(*full))


class ByChance(unittest.TestCase):
    """What stands behind undo and redo is what the calls that are not undone make of a new desk."""

    def chance_change(self, random, how_many):
        first = random.randrange(8)
        return random.choice([
            giver(random.randrange(3), 90, 5, random.randrange(6), random.choice((1, 2)), random.choice((20, 90))),
            away(random.randrange(how_many + 1), random.randrange(3)), ramps(random.randrange(99), random.randrange(99)),
            rule(random.randrange(3)), order(random.randrange(4), first, first + random.randrange(9), random.randrange(99)),
            order(8, 0, 30, random.randrange(99)), back(random.randrange(5)),
            quarter(*[random.randrange(99) for number in range(how_many)]),
            quarter(*[random.randrange(99) for number in range(how_many)])])

    def test_against_the_calls_that_are_not_undone(self):
        random = Random(51)
        for case in range(60):
            calls, there, undone, forgotten = [], [], [], 0
            downward = random.choice((0.1, 0.3, 0.45))
            for number in range(120):
                chance = random.random()
                if chance < downward:
                    expected = [0 if len(there) > forgotten else -2]
                    calls.append(undo())
                    if expected == [0]:
                        undone.append(there.pop())
                elif chance < 2 * downward:
                    expected = [0 if undone else -2]
                    calls.append(redo())
                    if undone:
                        there.append(undone.pop())
                else:
                    calls.append(self.chance_change(random, how_many_givers(there)))
                    expected = last(*there, calls[-1])
                    if expected[0] >= 0:
                        there.append(calls[-1])
                        undone = []
                        forgotten = max(forgotten, len(there) - 16)
                self.assertEqual(last(*calls), expected, flat(calls))
            asked = looks(how_many_givers(there))
            self.assertEqual(behind(calls, *asked), behind(there, *asked), flat(calls))


if __name__ == '__main__':
    unittest.main()
