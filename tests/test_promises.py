"""Lists of calls made by chance (always the same ones): against a plain desk, and promises 1, 2, 3 and 5 by quarter."""

import unittest
from random import Random

from plantshand.changes import tell_away, tell_back, tell_giver, tell_order, tell_quarter, tell_ramps, tell_rule
from plantshand.state import Desk
from tests.helper import (BOUND, MOST_WATTS, WATT, PlainDesk, allowed, away, back, could, could_micros, flat, giver,
                          judge, limits, loss, order, parts, prices, proves, quarter, quarter_micros, ramps, rule, run)


def chance_giver(random):
    start = random.randrange(4)
    table = []
    for where in sorted(random.sample(range(9), random.choice((1, 2, 3)))):
        table += [where, random.choice((0, 0, 1, 2))]
    if random.random() < 0.1:
        table = random.choice(([], table + [1], table + table))
    kind = random.choice((0, 0, 1, 1, 2, 7, 8 if random.random() < 0.2 else 7))
    return giver(kind, random.randrange(6), start, random.randrange(start + 1), random.choice((1, 1, 2, 3)),
                 random.choice((1, 2, 9)), random.choice((0, 1, 2, 2, 5)), table)


def chance_coming(random, how_many):
    coming = []
    for number in range(how_many):
        coming.append(max(random.choice((0, 1, 3, 5, 7, 9)) * WATT + random.choice((-1, 0, 1, 499999)), 0))
    return coming + [1] * (random.random() < 0.05)


def chance_able(random, how_many):
    return [random.randrange(5) for number in range(how_many)] + [1] * (random.random() < 0.05)


def chance_call(random, how_many):
    """A call on a desk with so many givers; most are taken."""
    able = chance_able(random, how_many)
    coming = chance_coming(random, how_many)
    first = random.randrange(12)
    return random.choice([
        away(random.randrange(how_many + 1), random.choice((0, 0, 1, 1, 2))),
        ramps(random.choice((0, 1, 3, 6, BOUND)), random.choice((0, 1, 2, 5, BOUND))),
        rule(random.choice((0, 1, 1, 2))),
        order(random.choice((0, 1, 2, 7, 8, 8, 9)), first, first + random.randrange(9), random.randrange(9)),
        order(random.choice((0, 1, 8)), 0, 40, random.randrange(9)),
        back(random.randrange(6)),
        could_micros(*coming), limits(), parts(random.choice((0, 0, 1, 2)), *able), prices(*able),
        judge(able, [random.randrange(watts + 1) for watts in able]),
        quarter_micros(*coming), quarter_micros(*coming), quarter_micros(*coming), quarter_micros(*coming)])


def chance_list(random):
    calls = []
    plain = PlainDesk()
    expected = []
    for number in range(40):
        how_many = len(plain.givers)
        if how_many < 4 and (number < 3 or random.random() < 0.05):
            call = chance_giver(random)
        else:
            call = chance_call(random, how_many)
        calls.append(call)
        expected.append(plain.answer(call))
    return calls, expected, plain


TELL = {0: lambda desk, call: tell_giver(desk, call[1:8], call[9:]), 1: lambda desk, call: tell_away(desk, *call[1:]),
        2: lambda desk, call: tell_ramps(desk, *call[1:]), 3: lambda desk, call: tell_rule(desk, *call[1:]),
        4: lambda desk, call: tell_order(desk, *call[1:]), 5: lambda desk, call: tell_back(desk, *call[1:]),
        6: lambda desk, call: tell_quarter(desk, call[2:])}


class AgainstPlainDesk(unittest.TestCase):
    def test_answers_and_what_is_counted(self):
        random = Random(1)
        for case in range(500):
            calls, expected, plain = chance_list(random)
            self.assertEqual(run(*calls), expected, flat(calls))
            desk = Desk()
            for call in calls:
                if call[0] in TELL:
                    TELL[call[0]](desk, call)
            self.assertEqual(desk.losses, [one.lost for one in plain.orders], flat(calls))
            self.assertEqual(desk.in_force_for, [one.in_force_for for one in plain.orders], flat(calls))
            self.assertEqual(desk.runs, [one.runs for one in plain.givers], flat(calls))
            self.assertEqual(desk.waited, [one.waited for one in plain.givers], flat(calls))
            self.assertEqual(desk.could_ever, plain.could_ever)
            self.assertEqual(desk.gave_ever, [one.gave_ever for one in plain.givers])


class EachQuarter(unittest.TestCase):
    """Each quarter is asked for ahead by could, limits, parts and prices, and must then be just that."""

    def check_quarter(self, givers, before, k, answered):
        able, bounds, fair, cheap, told_prices, gone = [answer[2:] for answer in answered]
        kinds, worths = [one[1] for one in givers], [one[7] for one in givers]
        self.assertEqual(gone, (fair, cheap)[k])
        self.assertEqual(answered[5][0], sum(gone))
        self.assertTrue(allowed(kinds, able, gone, bounds))
        for number in range(len(gone)):
            more = gone[:number] + [gone[number] + 1] + gone[number + 1:]
            self.assertFalse(allowed(kinds, able, more, bounds))
        self.assertTrue(proves(kinds, worths, able, cheap, bounds, told_prices))
        self.assertEqual(answered[4][0], loss(worths, able, cheap))
        for number, one in enumerate(givers):
            self.assertLessEqual(gone[number], before[number] + one[6])

    def test_promises_1_2_and_3(self):
        random = Random(2)
        for case in range(40):
            givers = [giver(random.randrange(8), random.randrange(1, 1000), 20, 10, random.choice((1, 2)),
                            random.choice((50, 400, MOST_WATTS)), random.randrange(50)) for number in range(24)]
            up, down = random.choice((100, 3000, BOUND)), random.choice((0, 200, BOUND))
            orders = [(random.randrange(9), first, first + random.randrange(1, 6), random.randrange(4000))
                      for first in [random.randrange(8) for number in range(30)]]
            k = case % 2
            calls = givers + [ramps(up, down), rule(k)] + [order(*one) for one in orders]
            told_from = len(calls)
            for number in range(8):
                coming = [random.choice((0, 10, 15, random.randrange(2000))) for one in givers]
                able = run(*calls, could(*coming))[-1][2:]
                calls += [could(*coming), limits(), parts(0, *able), parts(1, *able), prices(*able), quarter(*coming)]
            answered = run(*calls)
            before = [0] * 24
            for number in range(8):
                here = answered[told_from + 6 * number:told_from + 6 * number + 6]
                self.check_quarter(givers, before, k, here)
                self.check_orders(givers, orders, number, down, before, here[5][2:])
                self.assertLessEqual(here[5][0], sum(before) + up)
                before = here[5][2:]

    def check_orders(self, givers, orders, number, down, before, gone):
        for scope, first, end, limit in orders:
            if first <= number < end:
                within = [one for one in range(24) if scope in (8, givers[one][1])]
                lowered = max(limit, sum([before[one] for one in within]) - down)
                self.assertLessEqual(sum([gone[one] for one in within]), lowered)


if __name__ == '__main__':
    unittest.main()
