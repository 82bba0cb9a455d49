"""Orders in force, the limits they set in the next quarter, and what each of them costs."""

from plantshand.shares import CLASSES, NO_LIMIT, given_in_all, scope_sums
from plantshand.state import NOT_BACK

NO_ORDER = -1


def in_force(desk, number):
    """Whether an order is in force in the next quarter."""
    order = desk.orders[number]
    return desk.taken_back[number] == NOT_BACK and order.first <= desk.quarter < order.end


def brought_down(desk):
    """Of each order in force: its number, its scope, its limit as it is brought down."""
    gave = scope_sums(desk.givers, desk.gave)
    lows = []
    for number, order in enumerate(desk.orders):
        if in_force(desk, number):
            lows.append((number, order.scope, max(order.limit, gave[order.scope] - desk.down)))
    return lows


def limits_without(desk, lows, skipped):
    """The limits of classes 0 to 7 and the plant's, as if one order were not in force."""
    limits = [NO_LIMIT] * CLASSES + [sum(desk.gave) + desk.up]
    for number, scope, low in lows:
        if number != skipped and (limits[scope] == NO_LIMIT or low < limits[scope]):
            limits[scope] = low
    return limits


def limits_under(desk, lows):
    """The limits of classes 0 to 7 and the plant's under all these orders."""
    return limits_without(desk, lows, NO_ORDER)


def limits_now(desk):
    """The limits of classes 0 to 7 and the plant's in the next quarter."""
    return limits_under(desk, brought_down(desk))


def own_losses(desk, lows, able):
    """Of each order in force: its number and its own loss."""
    given = given_in_all(desk.givers, able, limits_under(desk, lows))
    losses = []
    for order in lows:
        number = order[0]
        without = given_in_all(desk.givers, able, limits_without(desk, lows, number))
        losses.append((number, without - given))
    return losses


def binding(desk, able):
    """The numbers of the orders in force that would have an own loss above 0."""
    return [number for number, loss in own_losses(desk, brought_down(desk), able) if loss > 0]


def clearing(desk, able):
    """The numbers of the orders in force whose limit is below what their scope's givers could give together."""
    sums = scope_sums(desk.givers, able)
    return [number for number, scope, low in brought_down(desk) if low < sums[scope]]
