"""What a desk holds from one call to the next."""

MOST_NUMBER = 4294967295
NOT_BACK = -1


class Order:
    """What is told of an order, and the next quarter's number when it came; it stays as it is."""

    def __init__(self, scope, first, end, limit, came):
        self.scope = scope
        self.first = first
        self.end = end
        self.limit = limit
        self.came = came


class Desk:
    """A new desk. A change puts new lists in the place of the old ones and leaves those as they are,
    since copies of a desk share them."""

    def __init__(self):
        self.givers = []
        self.runs = []
        self.waited = []
        self.absent = []
        self.gave = []
        self.gave_ever = []
        self.orders = []
        self.taken_back = []
        self.in_force_for = []
        self.losses = []
        self.up = MOST_NUMBER
        self.down = MOST_NUMBER
        self.rule = 0
        self.quarter = 0
        self.could_ever = 0


def copy_of(desk):
    """A desk that holds the same and may be changed by itself."""
    other = Desk()
    other.givers = desk.givers
    other.runs = desk.runs
    other.waited = desk.waited
    other.absent = desk.absent
    other.gave = desk.gave
    other.gave_ever = desk.gave_ever
    other.orders = desk.orders
    other.taken_back = desk.taken_back
    other.in_force_for = desk.in_force_for
    other.losses = desk.losses
    other.up = desk.up
    other.down = desk.down
    other.rule = desk.rule
    other.quarter = desk.quarter
    other.could_ever = desk.could_ever
    return other


def with_one(row, place, value):
    """A copy of the row in which one value is another."""
    changed = list(row)
    changed[place] = value
    return changed
