"""proof: each of its conditions by itself, the prices told, and promise 4 by search."""

import unittest
from itertools import product
from random import Random

from tests.helper import (BOUND, MOST_WATTS, NONE, allowed, check_nothing_changed, check_refused, class_total,
                          every_allowed, giver, last, loss, order, parts, prices, proof, proves, quarter, ramps, run)

FREE = [NONE] * 8 + [BOUND]


def desk(kinds, worths, bounds):
    """Calls that make a desk with these givers and limits in its next quarter."""
    givers = [giver(kind=kind, worth=worth) for kind, worth in zip(kinds, worths)]
    return givers + [order(scope, 0, 9, bound) for scope, bound in enumerate(bounds) if bound != NONE]


def row_of(plant, c0=NONE, c1=NONE, c7=NONE):
    return [c0, c1] + [NONE] * 5 + [c7, plant]


def asked_of(plant=0, c0=0, c1=0, c7=0):
    return [c0, c1] + [0] * 5 + [c7, plant]


def broken(kinds, worths, able, shares, bounds, asked):
    """Which of a proof's conditions do not hold."""
    found = []
    if not allowed(kinds, able, shares, bounds):
        found.append('allowed')
    if any(asked[kind] != 0 and class_total(kinds, shares, kind) != bounds[kind] for kind in range(8)):
        found.append('class')
    if asked[8] != 0 and sum(shares) != bounds[8]:
        found.append('plant')
    both = [asked[kind] + asked[8] for kind in kinds]
    if any(share < watts and worth > price for worth, watts, share, price in zip(worths, able, shares, both)):
        found.append('less')
    if any(share > 0 and worth < price for worth, share, price in zip(worths, shares, both)):
        found.append('anything')
    return found


class EachCondition(unittest.TestCase):
    """Of each wrong proof just one condition is broken."""

    def check(self, kinds, worths, able, shares, bounds, asked, conditions):
        self.assertEqual(broken(kinds, worths, able, shares, bounds, asked), conditions)
        self.assertEqual(last(*desk(kinds, worths, bounds), proof(able, shares, asked)), [int(conditions == [])])

    def test_one_that_holds(self):
        self.check([0, 0, 1], [5, 3, 4], [6, 6, 6], [6, 0, 4], row_of(10, c0=8), asked_of(4), [])

    def test_nothing_is_lost(self):
        self.check([0, 1], [5, 0], [6, 2], [6, 2], FREE, asked_of(), [])
        self.check([0, 1], [5, 0], [0, 0], [0, 0], FREE, asked_of(), [])

    def test_more_than_it_could_give(self):
        self.check([0], [5], [3], [4], FREE, asked_of(), ['allowed'])
        self.check([0, 0], [5, 5], [3, 9], [4, 9], FREE, asked_of(), ['allowed'])
        self.check([0], [5], [3], [BOUND], FREE, asked_of(), ['allowed'])

    def test_more_than_a_classs_limit(self):
        self.check([1, 1], [5, 5], [3, 2], [3, 2], row_of(BOUND, c1=4), asked_of(), ['allowed'])

    def test_more_than_the_plants_limit(self):
        self.check([0, 1], [5, 5], [3, 2], [3, 2], row_of(4), asked_of(), ['allowed'])

    def test_more_than_the_plants_up_allows(self):
        calls = [giver(worth=5), ramps(4, 0)]
        self.assertEqual(last(*calls, proof([5], [5], asked_of())), [0])
        self.assertEqual(last(*calls, proof([5], [4], asked_of(5))), [1])

    def test_a_price_of_a_class_that_is_not_full(self):
        self.check([0], [5], [3], [3], row_of(BOUND, c0=4), asked_of(c0=2), ['class'])
        self.check([0], [5], [3], [3], row_of(BOUND, c0=3), asked_of(c0=2), [])

    def test_a_price_of_a_class_without_a_limit(self):
        self.check([0], [5], [3], [3], FREE, asked_of(c0=2), ['class'])
        self.check([0], [5], [3], [3], FREE, asked_of(c0=1), ['class'])
        self.check([0], [5], [0], [0], FREE, asked_of(c0=2), ['class'])

    def test_a_price_of_a_class_without_givers(self):
        self.check([0], [5], [3], [3], FREE, asked_of(c7=2), ['class'])
        self.check([0], [5], [3], [3], row_of(BOUND, c7=1), asked_of(c7=2), ['class'])
        self.check([0], [5], [3], [3], row_of(BOUND, c7=0), asked_of(c7=2), [])

    def test_the_plants_price_where_it_is_not_full(self):
        self.check([0], [5], [3], [3], row_of(4), asked_of(2), ['plant'])
        self.check([0], [5], [3], [3], row_of(4), asked_of(1), ['plant'])
        self.check([0], [5], [3], [3], row_of(3), asked_of(2), [])

    def test_a_giver_that_has_less_and_is_worth_more(self):
        self.check([0], [5], [6], [3], row_of(BOUND, c0=3), asked_of(c0=4), ['less'])
        self.check([0], [5], [6], [3], row_of(BOUND, c0=3), asked_of(c0=5), [])
        self.check([0], [5], [6], [3], row_of(3), asked_of(4), ['less'])
        self.check([0], [5], [6], [3], row_of(3), asked_of(5), [])
        self.check([0], [5], [6], [0], row_of(0), asked_of(4), ['less'])
        self.check([0, 0], [5, 9], [6, 3], [0, 3], row_of(3), asked_of(4), ['less'])

    def test_one_that_has_anything_and_is_worth_less(self):
        self.check([0], [5], [3], [3], row_of(BOUND, c0=3), asked_of(c0=6), ['anything'])
        self.check([0], [5], [3], [3], row_of(3), asked_of(6), ['anything'])
        self.check([0], [5], [3], [3], row_of(3), asked_of(5), [])
        self.check([0, 0], [5, 6], [3, 3], [1, 3], row_of(4), asked_of(6), ['anything'])
        self.check([0, 0], [5, 6], [3, 3], [0, 3], row_of(3), asked_of(6), [])

    def test_the_two_prices_count_together(self):
        bounds = row_of(3, c0=3)
        self.check([0], [5], [6], [3], bounds, asked_of(2, c0=3), [])
        self.check([0], [5], [6], [3], bounds, asked_of(2, c0=2), ['less'])
        self.check([0], [5], [3], [3], bounds, asked_of(3, c0=3), ['anything'])
        self.check([0], [5], [6], [3], bounds, asked_of(0, c0=5), [])
        self.check([0], [5], [6], [3], bounds, asked_of(5, c0=0), [])

    def test_each_giver_by_the_price_of_its_own_class(self):
        bounds = row_of(BOUND, c0=3, c1=3)
        self.check([0, 1], [5, 7], [6, 6], [3, 3], bounds, asked_of(c0=5, c1=7), [])
        self.check([0, 1], [5, 7], [6, 6], [3, 3], bounds, asked_of(c0=7, c1=7), ['anything'])
        self.check([0, 1], [5, 7], [6, 6], [3, 3], bounds, asked_of(c0=5, c1=5), ['less'])

    def test_one_that_could_give_nothing_is_asked_nothing(self):
        self.check([0], [5], [0], [0], row_of(0), asked_of(BOUND), [])
        self.check([0], [5], [0], [0], row_of(0), asked_of(0), [])

    def test_the_greatest_prices(self):
        self.check([0], [65535], [9], [0], row_of(0, c0=0), asked_of(BOUND, c0=BOUND), [])
        self.check([0], [65535], [9], [1], row_of(1, c0=1), asked_of(BOUND, c0=BOUND), ['anything'])

    def test_without_givers(self):
        self.assertEqual(last(proof([], [], [0] * 9)), [1])
        self.assertEqual(last(proof([], [], asked_of(1))), [0])
        self.assertEqual(last(order(8, 0, 9, 0), proof([], [], asked_of(1))), [1])

    def test_limits_of_the_next_quarter_as_they_are_brought_down(self):
        calls = [giver(worth=5), quarter(100), ramps(BOUND, 30), order(8, 0, 9, 1), order(0, 2, 9, 0)]
        self.assertEqual(last(*calls, proof([90], [70], asked_of(5))), [1])
        self.assertEqual(last(*calls, proof([90], [69], asked_of(5))), [0])
        self.assertEqual(last(*calls, proof([90], [71], asked_of(5))), [0])
        self.assertEqual(last(*calls, quarter(90), proof([90], [40], asked_of(2, c0=3))), [1])


class Refusals(unittest.TestCase):
    BEFORE = desk([0, 1], [1, 2], row_of(9, c0=3)) + [quarter(5, 5)]

    def test_rows_that_are_not_such(self):
        able, shares, asked = [5, 5], [3, 5], [0] * 9
        for wrong in ([], [5], [5, 5, 5], [5, MOST_WATTS + 1], [BOUND, 0]):
            check_refused(self, self.BEFORE, proof(wrong, shares, asked), -1)
            check_refused(self, self.BEFORE, proof(wrong, wrong, asked), -1)
        for wrong in ([], [3], [3, 5, 0]):
            check_refused(self, self.BEFORE, proof(able, wrong, asked), -1)
        for wrong in ([], [0] * 8, [0] * 10, [0] * 900):
            check_refused(self, self.BEFORE, proof(able, shares, wrong), -1)

    def test_without_givers(self):
        self.assertEqual(last(proof([0], [], [0] * 9)), [-1])
        self.assertEqual(last(proof([], [0], [0] * 9)), [-1])
        self.assertEqual(last(proof([], [], [])), [-1])

    def test_shares_above_the_greatest_are_no_refusal(self):
        self.assertEqual(last(*self.BEFORE, proof([MOST_WATTS] * 2, [MOST_WATTS + 1] * 2, [0] * 9)), [0])

    def test_it_only_asks(self):
        check_nothing_changed(self, self.BEFORE, proof([5, 5], [3, 5], [1] + [0] * 8), [1])
        check_nothing_changed(self, self.BEFORE, proof([5, 5], [3, 5], [0] * 9), [0])


class PricesTold(unittest.TestCase):
    """Promise 3: the prices told of the shares that lose least prove it."""

    def test_small_and_great_ones(self):
        random = Random(31)
        for case in range(400):
            how_many = random.randrange(1, 25)
            great = random.choice((4, 50, MOST_WATTS))
            worth = random.choice((2, 9, 65535))
            kinds = [random.randrange(random.choice((1, 2, 8))) for number in range(how_many)]
            able = [random.choice((0, great, random.randrange(great + 1))) for number in range(how_many)]
            bounds = [random.choice((NONE, 0, random.randrange(3 * great))) for kind in range(8)]
            bounds.append(random.choice((0, random.randrange(how_many * great), BOUND)))
            calls = desk(kinds, [random.randrange(worth + 1) for number in range(how_many)], bounds)
            asked = run(*calls, parts(1, *able), prices(*able))[-2:]
            self.assertEqual(last(*calls, proof(able, asked[0][2:], asked[1][2:])), [1], calls)


class Searched(unittest.TestCase):
    """Promise 4: every proof that holds is of shares that lose least; small cases, all shares, all prices."""

    def check_all(self, kinds, worths, able, bounds):
        least = min([loss(worths, able, shares) for shares in every_allowed(kinds, able, bounds)])
        tried = []
        for shares in product(*[range(watts + 2) for watts in able]):
            for c0, c1, plant in product(range(4), range(3), range(4)):
                tried.append((list(shares), asked_of(plant, c0=c0, c1=c1)))
        held = 0
        before = desk(kinds, worths, bounds)
        for part in range(0, len(tried), 380):
            here = tried[part:part + 380]
            answered = run(*before, *[proof(able, shares, asked) for shares, asked in here])[len(before):]
            for (shares, asked), answer in zip(here, answered):
                self.assertEqual(answer, [int(proves(kinds, worths, able, shares, bounds, asked))])
                if answer == [1]:
                    held += 1
                    self.assertEqual(loss(worths, able, shares), least)
        return held

    def test_every_proof_that_holds_is_of_shares_that_lose_least(self):
        random = Random(32)
        held = 0
        for case in range(150):
            how_many = random.choice((2, 2, 3))
            kinds = [random.randrange(2) for number in range(how_many)]
            worths = [random.randrange(4) for number in range(how_many)]
            able = [random.randrange(3) for number in range(how_many)]
            bounds = row_of(random.choice((BOUND, 0, 1, 2, 3, 4)), random.choice((NONE, 0, 1, 2, 3)),
                            random.choice((NONE, 1, 2)))
            held += self.check_all(kinds, worths, able, bounds)
        self.assertGreater(held, 300)


if __name__ == '__main__':
    unittest.main()
