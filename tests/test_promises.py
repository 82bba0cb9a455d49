"""Lists of calls made by chance (always the same ones): against a plain desk, and the promises by quarter."""

import unittest
from random import Random

from tests.helper import (BOUND, MOST_WATTS, WATT, PlainLine, allowed, away, back, begin, binds, clears, could,
                          could_micros, flat, giver, judge, limits, loss, lost, order, parts, passes, prices, proof,
                          proves, quarter, quarter_micros, ramps, redo, rule, run, state, sums, told_of, undo)


def chance_giver(random):
    start = random.randrange(4)
    table = []
    for where in sorted(random.sample(range(9), random.choice((1, 2, 3)))):
        table += [where, random.choice((0, 0, 1, 2))]
    if random.random() < 0.1:
        table = random.choice(([], table + [1], table + table))
    kind = random.choice((0, 0, 1, 1, 2, 7, 8 if random.random() < 0.2 else 7))
    return giver(kind, random.randrange(6), start, random.randrange(start + 1), random.choice((1, 1, 2, 3)),
                 random.choice((1, 2, 9)), random.choice((0, 1, 2, 2, 5)), table)


def chance_coming(random, how_many):
    coming = []
    for number in range(how_many):
        coming.append(max(random.choice((0, 1, 3, 5, 7, 9)) * WATT + random.choice((-1, 0, 1, 499999)), 0))
    return coming + [1] * (random.random() < 0.05)


def chance_able(random, how_many):
    return [random.randrange(5) for number in range(how_many)] + [1] * (random.random() < 0.05)


def chance_change(random, how_many):
    """A call that changes a desk with so many givers; most are taken."""
    first = random.randrange(12)
    coming = chance_coming(random, how_many)
    return random.choice([
        away(random.randrange(how_many + 1), random.choice((0, 0, 1, 1, 2))),
        ramps(random.choice((0, 1, 3, 6, BOUND)), random.choice((0, 1, 2, 5, BOUND))),
        rule(random.choice((0, 1, 1, 2))),
        order(random.choice((0, 1, 2, 7, 8, 8, 9)), first, first + random.randrange(9), random.randrange(9)),
        order(random.choice((0, 1, 8)), 0, 40, random.randrange(9)),
        back(random.randrange(6)),
        quarter_micros(*coming), quarter_micros(*coming), quarter_micros(*coming), quarter_micros(*coming)])


def chance_proof(random, desk, able):
    """Shares and prices, often those told, now and then with one number changed."""
    if not desk.is_able(able):
        return proof(able, able, [0] * 9)
    shares, asked = desk.shares(1, able), desk.call_prices(able)[2:]
    for numbers in (shares, asked):
        if numbers and random.random() < 0.3:
            at = random.randrange(len(numbers))
            numbers[at] = max(numbers[at] + random.choice((-1, 1)), 0)
    return proof(able, shares, asked + [0] * (random.random() < 0.05))


def chance_question(random, desk):
    """A call that asks a desk; most are answered."""
    how_many = len(desk.givers)
    able = chance_able(random, how_many)
    coming = chance_coming(random, how_many)
    return random.choice([
        could_micros(*coming), limits(), parts(random.choice((0, 0, 1, 2)), *able), prices(*able),
        judge(able, [random.randrange(watts + 1) for watts in able]), chance_proof(random, desk, able),
        lost(random.randrange(5)), told_of(random.randrange(5)), binds(*able), clears(*able),
        state(random.randrange(how_many + 1)), sums(), passes(random.randrange(how_many + 1), random.randrange(12 * WATT))])


def chance_list(random, length, turns):
    """A list of calls and the plain desk's answers; turns is how often one of them is undo or redo."""
    calls = []
    plain = PlainLine()
    expected = []
    for number in range(length):
        how_many = len(plain.desk.givers)
        chance = random.random()
        if chance < turns:
            call = random.choice((undo(), undo(), redo()))
        elif chance < turns + 0.003:
            call = begin()
        elif how_many < 2 or how_many < 4 and random.random() < 0.05:
            call = chance_giver(random)
        elif random.random() < 0.5:
            call = chance_change(random, how_many)
        else:
            call = chance_question(random, plain.desk)
        calls.append(call)
        expected.append(plain.answer(call))
    return calls, expected


class AgainstPlainDesk(unittest.TestCase):
    """All 23 sorts of calls by turns."""

    def check_lists(self, seed, how_many, length, turns):
        random = Random(seed)
        heard = {}
        for case in range(how_many):
            calls, expected = chance_list(random, length, turns)
            self.assertEqual(run(*calls), expected, flat(calls))
            for call, answer in zip(calls, expected):
                heard[call[0], answer[0] < 0] = True
        return heard

    def test_short_lists(self):
        heard = self.check_lists(1, 500, 40, 0.1)
        self.assertEqual({call for call, refused in heard if not refused}, set(range(23)))
        never = {2, 8, 18, 22}
        self.assertEqual({call for call, refused in heard if refused}, set(range(23)) - never)

    def test_long_lists(self):
        self.check_lists(2, 20, 400, 0.1)
        self.check_lists(3, 20, 400, 0.5)


class EachQuarter(unittest.TestCase):
    """Each quarter is asked for ahead by could, limits, parts and prices, and must then be just that."""

    def check_quarter(self, givers, before, k, answered):
        able, bounds, fair, cheap, told_prices, gone = [answer[2:] for answer in answered]
        kinds, worths = [one[1] for one in givers], [one[7] for one in givers]
        self.assertEqual(gone, (fair, cheap)[k])
        self.assertEqual(answered[5][0], sum(gone))
        self.assertTrue(allowed(kinds, able, gone, bounds))
        for number in range(len(gone)):
            more = gone[:number] + [gone[number] + 1] + gone[number + 1:]
            self.assertFalse(allowed(kinds, able, more, bounds))
        self.assertTrue(proves(kinds, worths, able, cheap, bounds, told_prices))
        self.assertEqual(answered[4][0], loss(worths, able, cheap))
        for number, one in enumerate(givers):
            self.assertLessEqual(gone[number], before[number] + one[6])

    def test_promises_1_2_and_3(self):
        random = Random(2)
        for case in range(40):
            givers = [giver(random.randrange(8), random.randrange(1, 1000), 20, 10, random.choice((1, 2)),
                            random.choice((50, 400, MOST_WATTS)), random.randrange(50)) for number in range(24)]
            up, down = random.choice((100, 3000, BOUND)), random.choice((0, 200, BOUND))
            orders = [(random.randrange(9), first, first + random.randrange(1, 6), random.randrange(4000))
                      for first in [random.randrange(8) for number in range(30)]]
            k = case % 2
            calls = givers + [ramps(up, down), rule(k)] + [order(*one) for one in orders]
            told_from = len(calls)
            for number in range(8):
                coming = [random.choice((0, 10, 15, random.randrange(2000))) for one in givers]
                able = run(*calls, could(*coming))[-1][2:]
                calls += [could(*coming), limits(), parts(0, *able), parts(1, *able), prices(*able), quarter(*coming)]
            answered = run(*calls)
            before = [0] * 24
            for number in range(8):
                here = answered[told_from + 6 * number:told_from + 6 * number + 6]
                self.check_quarter(givers, before, k, here)
                self.check_orders(givers, orders, number, down, before, here[5][2:])
                self.assertLessEqual(here[5][0], sum(before) + up)
                before = here[5][2:]

    def check_orders(self, givers, orders, number, down, before, gone):
        for scope, first, end, limit in orders:
            if first <= number < end:
                within = [one for one in range(24) if scope in (8, givers[one][1])]
                lowered = max(limit, sum([before[one] for one in within]) - down)
                self.assertLessEqual(sum([gone[one] for one in within]), lowered)


class OrderByOrder(unittest.TestCase):
    """Promise 5: an order's own loss is what would be given more if it were taken back now."""

    def test_own_losses(self):
        random = Random(4)
        seen = 0
        for case in range(12):
            calls = [giver(random.randrange(4), 1000, worth=random.randrange(9)) for number in range(24)]
            calls += [ramps(random.choice((4000, BOUND)), random.choice((0, 500, BOUND))), rule(case % 2)]
            calls += [order(random.choice((0, 1, 2, 3, 8)), first, first + random.randrange(1, 6),
                            random.randrange(500, 9000)) for first in [random.randrange(5) for number in range(12)]]
            counted = [(0, 0)] * 12
            for number in range(6):
                able = [random.randrange(1000) for one in range(24)]
                given = run(*calls, parts(0, *able))[-1][0]
                more = [run(*calls, back(one), parts(0, *able))[-1][0] - given for one in range(12)]
                self.assertEqual(run(*calls, binds(*able))[-1][2:], [one for one in range(12) if more[one] > 0])
                first_ends = [answer[3:5] for answer in run(*calls, *[told_of(one) for one in range(12)])[-12:]]
                calls.append(quarter(*able))
                after = [(answer[0], answer[2]) for answer in run(*calls, *[lost(one) for one in range(12)])[-12:]]
                for one, (first, end) in enumerate(first_ends):
                    expected = (counted[one][0] + more[one], counted[one][1] + (first <= number < end))
                    self.assertEqual(after[one], expected)
                    seen += more[one] > 0
                counted = after
        self.assertGreater(seen, 40)


if __name__ == '__main__':
    unittest.main()
