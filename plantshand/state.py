"""What a desk holds from one call to the next."""

MOST_NUMBER = 4294967295
NOT_BACK = -1


class Order:
    """What is told of an order; it stays as it is."""

    def __init__(self, scope, first, end, limit):
        self.scope = scope
        self.first = first
        self.end = end
        self.limit = limit


class Desk:
    """A new desk. A change puts new lists in the place of the old ones and leaves those as they are."""

    def __init__(self):
        self.givers = []
        self.runs = []
        self.waited = []
        self.absent = []
        self.gave = []
        self.gave_ever = []
        self.orders = []
        self.taken_back = []
        self.in_force_for = []
        self.losses = []
        self.up = MOST_NUMBER
        self.down = MOST_NUMBER
        self.rule = 0
        self.quarter = 0
        self.could_ever = 0


def with_one(row, place, value):
    """A copy of the row in which one value is another."""
    changed = list(row)
    changed[place] = value
    return changed
