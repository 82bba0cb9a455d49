"""The calls that only ask a desk: could, limits, parts, judge, prices."""

from plantshand.givers import MOST_WATTS
from plantshand.judging import judgement, loss_of, prices_told
from plantshand.limits import limits_now
from plantshand.quarters import able_next
from plantshand.shares import MOST_RULE, least_losing, shares_by


def is_able(desk, row):
    """Whether a row is one of what each could give."""
    return len(row) == len(desk.givers) and max(row, default=0) <= MOST_WATTS


def ask_could(desk, coming):
    """Answer the call could."""
    if len(coming) != len(desk.givers):
        return [-1]
    able = able_next(desk, coming)
    return [sum(able), len(able)] + able


def ask_limits(desk):
    """Answer the call limits."""
    limits = limits_now(desk)
    return [0, len(limits)] + limits


def ask_parts(desk, rule, able):
    """Answer the call parts."""
    if rule > MOST_RULE or not is_able(desk, able):
        return [-1]
    shares = shares_by(rule, desk.givers, able, limits_now(desk))
    return [sum(shares), len(shares)] + shares


def ask_judge(desk, able, shares):
    """Answer the call judge."""
    if not is_able(desk, able) or len(shares) != len(able):
        return [-1]
    return [judgement(desk.givers, able, shares, limits_now(desk))]


def ask_prices(desk, able):
    """Answer the call prices."""
    if not is_able(desk, able):
        return [-1]
    limits = limits_now(desk)
    shares = least_losing(desk.givers, able, limits)
    prices = prices_told(desk.givers, able, shares, limits)
    return [loss_of(desk.givers, able, shares), len(prices)] + prices
