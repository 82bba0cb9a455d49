"""The calls that change a desk: giver, away, ramps, rule, order, back, quarter."""

from plantshand.answering import with_row
from plantshand.givers import MOST_GIVERS, Giver, is_giver
from plantshand.quarters import go_through
from plantshand.shares import MOST_RULE, PLANT
from plantshand.state import NOT_BACK, Order, with_one
from plantshand.tables import is_table

MOST_ORDERS = 32


def tell_giver(desk, numbers, table):
    """Answer the call giver; numbers are class, most, start, stop, wait, up, worth."""
    kind = numbers[0]
    most = numbers[1]
    start = numbers[2]
    stop = numbers[3]
    wait = numbers[4]
    up = numbers[5]
    worth = numbers[6]
    if not is_giver(kind, most, start, stop, wait, up, worth):
        return [-1]
    if not is_table(table):
        return [-2]
    if len(desk.givers) == MOST_GIVERS:
        return [-3]
    desk.givers = desk.givers + [Giver(kind, most, start, stop, wait, up, worth, table)]
    desk.runs = desk.runs + [False]
    desk.waited = desk.waited + [0]
    desk.absent = desk.absent + [False]
    desk.gave = desk.gave + [0]
    desk.gave_ever = desk.gave_ever + [0]
    return [len(desk.givers) - 1]


def tell_away(desk, number, away):
    """Answer the call away."""
    if away > 1:
        return [-1]
    if number >= len(desk.givers):
        return [-2]
    desk.absent = with_one(desk.absent, number, away == 1)
    if away == 1:
        desk.runs = with_one(desk.runs, number, False)
        desk.waited = with_one(desk.waited, number, 0)
    return [0]


def tell_ramps(desk, up, down):
    """Answer the call ramps."""
    desk.up = up
    desk.down = down
    return [0]


def tell_rule(desk, rule):
    """Answer the call rule."""
    if rule > MOST_RULE:
        return [-1]
    desk.rule = rule
    return [0]


def tell_order(desk, scope, first, end, limit):
    """Answer the call order."""
    if scope > PLANT or end <= first:
        return [-1]
    if end <= desk.quarter:
        return [-2]
    if len(desk.orders) == MOST_ORDERS:
        return [-3]
    desk.orders = desk.orders + [Order(scope, first, end, limit, desk.quarter)]
    desk.taken_back = desk.taken_back + [NOT_BACK]
    desk.in_force_for = desk.in_force_for + [0]
    desk.losses = desk.losses + [0]
    return [len(desk.orders) - 1]


def tell_back(desk, number):
    """Answer the call back."""
    if number >= len(desk.orders):
        return [-1]
    if desk.taken_back[number] != NOT_BACK or desk.orders[number].end <= desk.quarter:
        return [-2]
    desk.taken_back = with_one(desk.taken_back, number, desk.quarter)
    return [0]


def tell_quarter(desk, coming):
    """Answer the call quarter."""
    if len(coming) != len(desk.givers):
        return [-1]
    shares = go_through(desk, coming)
    return with_row(sum(shares), shares)
