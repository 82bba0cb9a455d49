"""The calls that ask of the next quarter: could, limits, parts, judge, prices, proof, binds, clears."""

from plantshand.answering import with_row
from plantshand.givers import MOST_WATTS
from plantshand.judging import is_proof, judgement, loss_of, prices_told
from plantshand.limits import binding, clearing, limits_now
from plantshand.quarters import able_next
from plantshand.shares import MOST_RULE, least_losing, shares_by

# one of each class and the plant's
PRICES_ASKED = 9


def is_able(desk, row):
    """Whether a row is one of what each could give."""
    return len(row) == len(desk.givers) and max(row, default=0) <= MOST_WATTS


def ask_could(desk, coming):
    """Answer the call could."""
    if len(coming) != len(desk.givers):
        return [-1]
    able = able_next(desk, coming)
    return with_row(sum(able), able)


def ask_limits(desk):
    """Answer the call limits."""
    return with_row(0, limits_now(desk))


def ask_parts(desk, rule, able):
    """Answer the call parts."""
    if rule > MOST_RULE or not is_able(desk, able):
        return [-1]
    shares = shares_by(rule, desk.givers, able, limits_now(desk))
    return with_row(sum(shares), shares)


def ask_judge(desk, able, shares):
    """Answer the call judge."""
    if not is_able(desk, able) or len(shares) != len(able):
        return [-1]
    return [judgement(desk.givers, able, shares, limits_now(desk))]


def ask_prices(desk, able):
    """Answer the call prices."""
    if not is_able(desk, able):
        return [-1]
    limits = limits_now(desk)
    shares = least_losing(desk.givers, able, limits)
    return with_row(loss_of(desk.givers, able, shares), prices_told(desk.givers, able, shares, limits))


def ask_proof(desk, able, shares, prices):
    """Answer the call proof."""
    if not is_able(desk, able) or len(shares) != len(able) or len(prices) != PRICES_ASKED:
        return [-1]
    return [int(is_proof(desk.givers, able, shares, limits_now(desk), prices))]


def ask_binds(desk, able):
    """Answer the call binds."""
    if not is_able(desk, able):
        return [-1]
    numbers = binding(desk, able)
    return with_row(len(numbers), numbers)


def ask_clears(desk, able):
    """Answer the call clears."""
    if not is_able(desk, able):
        return [-1]
    numbers = clearing(desk, able)
    return with_row(len(numbers), numbers)
