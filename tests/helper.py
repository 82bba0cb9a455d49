"""What the tests share: the calls as rows of numbers, their answers taken apart, and a plain desk.

The plain desk does what the document says by search over all shares and with fractions,
in no way like the program does it, so it is for small numbers only.
"""

from copy import deepcopy
from fractions import Fraction
from itertools import product
from math import floor

from plantshand.desk import answers

BOUND = 4294967295
MOST_WATTS = 10000000
MOST_COMING = 1000000000000000
WATT = 1000000
NONE = -1
NAMES = ('giver', 'away', 'ramps', 'rule', 'order', 'back', 'quarter', 'could', 'limits', 'parts', 'judge', 'prices',
         'proof', 'lost', 'told', 'binds', 'clears', 'state', 'sums', 'passes', 'undo', 'redo', 'begin')
SINGLES = (7, 2, 2, 1, 4, 1, 0, 0, 0, 1, 0, 0, 0, 1, 1, 0, 0, 1, 0, 2, 0, 0, 0)


def row(numbers):
    return [len(numbers)] + list(numbers)


def giver(kind=0, most=MOST_WATTS, start=0, stop=0, wait=1, up=MOST_WATTS, worth=1, table=(0, 0)):
    return [0, kind, most, start, stop, wait, up, worth] + row(table)


def away(number, absent):
    return [1, number, absent]


def ramps(up, down):
    return [2, up, down]


def rule(k):
    return [3, k]


def order(scope, first, end, limit):
    return [4, scope, first, end, limit]


def back(number):
    return [5, number]


def quarter(*watts):
    return [6] + row([watt * WATT for watt in watts])


def quarter_micros(*micros):
    return [6] + row(micros)


def could(*watts):
    return [7] + row([watt * WATT for watt in watts])


def could_micros(*micros):
    return [7] + row(micros)


def limits():
    return [8]


def parts(k, *able):
    return [9, k] + row(able)


def judge(able, shares):
    return [10] + row(able) + row(shares)


def prices(*able):
    return [11] + row(able)


def proof(able, shares, asked):
    return [12] + row(able) + row(shares) + row(asked)


def lost(number):
    return [13, number]


def told_of(number):
    """The call told."""
    return [14, number]


def binds(*able):
    return [15] + row(able)


def clears(*able):
    return [16] + row(able)


def state(number):
    return [17, number]


def sums():
    return [18]


def passes(number, micros):
    return [19, number, micros]


def undo():
    return [20]


def redo():
    return [21]


def begin():
    return [22]


def flat(calls):
    return [number for call in calls for number in call]


def apart(told):
    """The answers of the calls, one list each."""
    answered = []
    at = 0
    while at < len(told):
        end = at + 1 + told[at]
        answered.append(told[at + 1:end])
        at = end
    return answered


def run(*calls):
    """Each call's answer; the list handed in is one behind another."""
    return apart(answers(flat(calls)))


def last(*calls):
    return run(*calls)[-1]


def told(number, *numbers):
    """An answer with a row behind its number."""
    return [number] + row(numbers)


def looks(how_many):
    """Calls that ask all that a desk with so many givers holds and says of its next quarter."""
    coming = [30 + number for number in range(how_many)]
    able = [40 + 3 * number for number in range(how_many)]
    held = [sums()] + [state(number) for number in range(24)] + [passes(number, 77 * WATT) for number in range(24)]
    held += [lost(number) for number in range(32)] + [told_of(number) for number in range(32)]
    return held + [limits(), could(*coming), parts(0, *able), parts(1, *able), prices(*able), judge(able, able),
                   binds(*able), clears(*able), proof(able, able, [0] * 9)]


def goings(how_many):
    """Calls that show what comes of a desk with so many givers in quarters to come, and what it remembers."""
    coming = [30 + number for number in range(how_many)]
    going = [quarter(*coming), limits(), quarter(*coming), could(*coming)]
    telling = [back(0), limits(), back(1), back(2), order(8, 0, BOUND, 60), quarter(*coming), giver(), limits()]
    return going + telling + [sums()] + [undo()] * 17 + [sums(), limits()]


def probes(how_many):
    """Calls that show all that a desk with so many givers holds, what can be undone and redone with it."""
    return looks(how_many) + [undo(), sums(), limits(), redo(), redo(), redo()] + goings(how_many)


def check_refused(test, before, call, number):
    """The call is answered by that number alone behind those before it, and nothing has changed."""
    test.assertLess(number, 0)
    check_nothing_changed(test, before, call, [number])


def check_nothing_changed(test, before, call, answer):
    """The call is answered like that behind those before it, and all is as if it had not come."""
    asked = probes(how_many_givers(before))
    heard = run(*before, call, *asked)
    test.assertEqual(heard[len(before)], answer)
    test.assertEqual(heard[:len(before)] + heard[len(before) + 1:], run(*before, *asked))


def how_many_givers(before):
    there = run(*before, *[state(number) for number in range(24)])[len(before):]
    return len([answer for answer in there if answer[0] >= 0])


def class_total(kinds, shares, kind):
    return sum([share for of, share in zip(kinds, shares) if of == kind])


def allowed(kinds, able, shares, bounds):
    if any(share > watts for share, watts in zip(shares, able)):
        return False
    for kind in range(8):
        if bounds[kind] != NONE and class_total(kinds, shares, kind) > bounds[kind]:
            return False
    return sum(shares) <= bounds[8]


def every_allowed(kinds, able, bounds):
    ways = product(*[range(watts + 1) for watts in able])
    return [list(shares) for shares in ways if allowed(kinds, able, shares, bounds)]


def searched_fairest(ways):
    """Of all allowed shares the fairest told."""
    return max(ways, key=lambda shares: (sorted(shares), shares))


def loss(worths, able, shares):
    return sum([worth * (watts - share) for worth, watts, share in zip(worths, able, shares)])


def one_by_one(kinds, worths, able, bounds):
    """The shares that lose least: by worth, each one watt more as long as that is allowed."""
    shares = [0] * len(able)
    for worth in sorted(set(worths), reverse=True):
        for number in range(len(able)):
            while worths[number] == worth:
                shares[number] += 1
                if not allowed(kinds, able, shares, bounds):
                    shares[number] -= 1
                    break
    return shares


def proves(kinds, worths, able, shares, bounds, asked):
    """Whether prices prove that shares lose least."""
    if not allowed(kinds, able, shares, bounds):
        return False
    for kind in range(8):
        if asked[kind] != 0 and class_total(kinds, shares, kind) != bounds[kind]:
            return False
    if asked[8] != 0 and sum(shares) != bounds[8]:
        return False
    for kind, worth, watts, share in zip(kinds, worths, able, shares):
        price = asked[kind] + asked[8]
        if share < watts and worth > price or share > 0 and worth < price:
            return False
    return True


class PlainGiver:
    def __init__(self, kind, most, start, stop, wait, up, worth, table):
        self.kind, self.most, self.start, self.stop = kind, most, start, stop
        self.wait, self.up, self.worth = wait, up, worth
        self.points = list(zip(table[::2], table[1::2]))
        self.runs, self.waited, self.absent, self.gave, self.gave_ever = False, 0, False, 0, 0

    def passes(self, micros):
        watts = Fraction(micros, WATT)
        value = Fraction(self.points[-1][1])
        if watts < self.points[0][0]:
            value = Fraction(self.points[0][1])
        for (left, low), (right, high) in zip(self.points, self.points[1:]):
            if left <= watts < right:
                value = low + (watts - left) * Fraction(high - low, right - left)
        return sorted([0, floor(watts - value), self.most])[1]

    def next_step(self, micros):
        watts = Fraction(micros, WATT)
        if self.absent:
            return False, 0
        if self.runs:
            return watts >= self.stop, 0
        waited = self.waited + 1 if watts >= self.start else 0
        return (True, 0) if waited == self.wait else (False, waited)

    def could(self, micros):
        return min(self.passes(micros), self.gave + self.up) if self.next_step(micros)[0] else 0


class PlainOrder:
    def __init__(self, scope, first, end, limit, came):
        self.scope, self.first, self.end, self.limit, self.came = scope, first, end, limit, came
        self.taken_back, self.in_force_for, self.lost = None, 0, 0


class PlainDesk:
    def __init__(self):
        self.givers, self.orders = [], []
        self.up = self.down = BOUND
        self.rule, self.next_quarter, self.could_ever = 0, 0, 0

    def kinds(self):
        return [one.kind for one in self.givers]

    def worths(self):
        return [one.worth for one in self.givers]

    def in_force(self):
        return [one for one in self.orders if one.taken_back is None and one.first <= self.next_quarter < one.end]

    def lowered(self, one):
        gave = sum([other.gave for other in self.givers if one.scope in (8, other.kind)])
        return max(one.limit, gave - self.down)

    def bounds(self, orders):
        found = [min([self.lowered(one) for one in orders if one.scope == kind], default=NONE) for kind in range(8)]
        ramp = sum([one.gave for one in self.givers]) + self.up
        return found + [min([ramp] + [self.lowered(one) for one in orders if one.scope == 8])]

    def ways(self, able, orders):
        return every_allowed(self.kinds(), able, self.bounds(orders))

    def own_loss(self, one, able):
        others = [other for other in self.in_force() if other is not one]
        without = max([sum(way) for way in self.ways(able, others)])
        return without - max([sum(way) for way in self.ways(able, self.in_force())])

    def shares(self, k, able):
        if k == 0:
            return searched_fairest(self.ways(able, self.in_force()))
        return one_by_one(self.kinds(), self.worths(), able, self.bounds(self.in_force()))

    def is_able(self, able):
        return len(able) == len(self.givers) and all(watts <= MOST_WATTS for watts in able)

    def call_giver(self, kind, most, start, stop, wait, up, worth, table):
        if kind > 7 or max(most, start, up) > MOST_WATTS or stop > start or not 1 <= wait <= 96 or worth > 65535:
            return [-1]
        wheres = table[::2]
        if len(table) not in range(2, 49, 2) or wheres != sorted(set(wheres)):
            return [-2]
        if len(self.givers) >= 24:
            return [-3]
        self.givers.append(PlainGiver(kind, most, start, stop, wait, up, worth, table))
        return [len(self.givers) - 1]

    def call_away(self, number, absent):
        if absent > 1:
            return [-1]
        if number >= len(self.givers):
            return [-2]
        self.givers[number].absent = absent == 1
        if absent == 1:
            self.givers[number].runs, self.givers[number].waited = False, 0
        return [0]

    def call_ramps(self, up, down):
        self.up, self.down = up, down
        return [0]

    def call_rule(self, k):
        if k > 1:
            return [-1]
        self.rule = k
        return [0]

    def call_order(self, scope, first, end, limit):
        if scope > 8 or end <= first:
            return [-1]
        if end <= self.next_quarter:
            return [-2]
        if len(self.orders) >= 32:
            return [-3]
        self.orders.append(PlainOrder(scope, first, end, limit, self.next_quarter))
        return [len(self.orders) - 1]

    def call_back(self, number):
        if number >= len(self.orders):
            return [-1]
        if self.orders[number].taken_back is not None or self.orders[number].end <= self.next_quarter:
            return [-2]
        self.orders[number].taken_back = self.next_quarter
        return [0]

    def call_quarter(self, coming):
        if len(coming) != len(self.givers):
            return [-1]
        able = [one.could(micros) for one, micros in zip(self.givers, coming)]
        shares = self.shares(self.rule, able)
        for one in self.in_force():
            one.lost += self.own_loss(one, able)
            one.in_force_for += 1
        for one, micros, share in zip(self.givers, coming, shares):
            one.runs, one.waited = one.next_step(micros)
            one.gave = share
            one.gave_ever += share
        self.could_ever += sum(able)
        self.next_quarter += 1
        return told(sum(shares), *shares)

    def call_could(self, coming):
        if len(coming) != len(self.givers):
            return [-1]
        able = [one.could(micros) for one, micros in zip(self.givers, coming)]
        return told(sum(able), *able)

    def call_limits(self):
        return told(0, *self.bounds(self.in_force()))

    def call_parts(self, k, able):
        if k > 1 or not self.is_able(able):
            return [-1]
        shares = self.shares(k, able)
        return told(sum(shares), *shares)

    def call_judge(self, able, shares):
        if not self.is_able(able) or len(shares) != len(able):
            return [-1]
        ways = self.ways(able, self.in_force())
        if shares not in ways:
            return [0]
        if any(sorted(way) > sorted(shares) for way in ways):
            return [1]
        return [3 if shares == searched_fairest(ways) else 2]

    def call_prices(self, able):
        if not self.is_able(able):
            return [-1]
        bounds = self.bounds(self.in_force())
        shares = self.shares(1, able)
        full = [bounds[kind] == class_total(self.kinds(), shares, kind) for kind in range(8)]
        short = [one for one, watts, share in zip(self.givers, able, shares) if share < watts]
        plant = max([one.worth for one in short if not full[one.kind]] + [0])
        asked = [0] * 8
        for kind in range(8):
            if full[kind]:
                asked[kind] = max(0, max([one.worth for one in short if one.kind == kind] + [0]) - plant)
        return told(loss(self.worths(), able, shares), *asked, plant)

    def call_proof(self, able, shares, asked):
        if not self.is_able(able) or len(shares) != len(able) or len(asked) != 9:
            return [-1]
        return [int(proves(self.kinds(), self.worths(), able, shares, self.bounds(self.in_force()), asked))]

    def call_lost(self, number):
        if number >= len(self.orders):
            return [-1]
        return told(self.orders[number].lost, self.orders[number].in_force_for)

    def call_told(self, number):
        if number >= len(self.orders):
            return [-1]
        one = self.orders[number]
        return told(0, one.scope, one.first, one.end, one.limit, one.came,
                    -1 if one.taken_back is None else one.taken_back)

    def call_binds(self, able):
        if not self.is_able(able):
            return [-1]
        found = [self.orders.index(one) for one in self.in_force() if self.own_loss(one, able) > 0]
        return told(len(found), *found)

    def call_clears(self, able):
        if not self.is_able(able):
            return [-1]
        found = []
        for number, one in enumerate(self.orders):
            together = sum([watts for kind, watts in zip(self.kinds(), able) if one.scope in (8, kind)])
            if one in self.in_force() and self.lowered(one) < together:
                found.append(number)
        return told(len(found), *found)

    def call_state(self, number):
        if number >= len(self.givers):
            return [-1]
        one = self.givers[number]
        return told(int(one.runs), one.waited, one.gave, one.gave_ever, int(one.absent))

    def call_sums(self):
        gave = sum([one.gave_ever for one in self.givers])
        return told(self.next_quarter, self.could_ever, gave, self.could_ever - gave)

    def call_passes(self, number, micros):
        if number >= len(self.givers):
            return [-1]
        return [self.givers[number].passes(micros)]

    def answer(self, call):
        """The answer to a call written as the functions above write it, other than undo, redo, begin."""
        singles = SINGLES[call[0]]
        handed = list(call[1:1 + singles])
        at = 1 + singles
        while at < len(call):
            handed.append(list(call[at + 1:at + 1 + call[at]]))
            at += 1 + call[at]
        return getattr(self, 'call_' + NAMES[call[0]])(*handed)


class PlainLine:
    """A plain desk that remembers: all desks that there have been since begin, and which of them is there now."""

    def __init__(self):
        self.desks, self.here, self.forgotten = [PlainDesk()], 0, 0

    @property
    def desk(self):
        return self.desks[self.here]

    def answer(self, call):
        name = NAMES[call[0]]
        if name == 'undo':
            if self.here == self.forgotten:
                return [-2]
            self.here -= 1
        elif name == 'redo':
            if self.here == len(self.desks) - 1:
                return [-2]
            self.here += 1
        elif name == 'begin':
            self.desks, self.here, self.forgotten = [PlainDesk()], 0, 0
        elif name in ('giver', 'away', 'ramps', 'rule', 'order', 'back', 'quarter'):
            changed = deepcopy(self.desk)
            answer = changed.answer(call)
            if answer[0] >= 0:
                self.desks = self.desks[:self.here + 1] + [changed]
                self.here += 1
                self.forgotten = max(self.forgotten, self.here - 16)
            return answer
        else:
            return self.desk.answer(call)
        return [0]
