"""What is said of shares: whether they are allowed, how fair they are, what they lose, what proves it."""

from plantshand.shares import CLASSES, NO_LIMIT, PLANT, class_sums, fairest

NOT_ALLOWED = 0
ALLOWED_ONLY = 1
FAIREST_ALSO = 2
FAIREST_TOLD = 3


def is_allowed(givers, able, shares, limits):
    """Whether shares are allowed."""
    for watts, share in zip(able, shares):
        if share > watts:
            return False
    sums = class_sums(givers, shares)
    for kind in range(CLASSES):
        if limits[kind] != NO_LIMIT and sums[kind] > limits[kind]:
            return False
    return sum(shares) <= limits[PLANT]


def judgement(givers, able, shares, limits):
    """3: the fairest shares told; 2: as fair as those; 1: allowed; 0: not allowed."""
    if not is_allowed(givers, able, shares, limits):
        return NOT_ALLOWED
    told = fairest(givers, able, limits)
    if shares == told:
        return FAIREST_TOLD
    if sorted(shares) == sorted(told):
        return FAIREST_ALSO
    return ALLOWED_ONLY


def loss_of(givers, able, shares):
    """What is lost by shares."""
    return sum([givers[number].worth * (able[number] - shares[number]) for number in range(len(givers))])


def full_classes(givers, shares, limits):
    """Of each class whether it is full; one without a limit never is, since no sum is below 0."""
    sums = class_sums(givers, shares)
    return [sums[kind] == limits[kind] for kind in range(CLASSES)]


def prices_told(givers, able, shares, limits):
    """The prices of classes 0 to 7 and the plant's that are told of the shares that lose least."""
    full = full_classes(givers, shares, limits)
    short = [giver for giver, watts, share in zip(givers, able, shares) if share < watts]
    plant_price = max([giver.worth for giver in short if not full[giver.kind]], default=0)
    prices = []
    for kind in range(CLASSES):
        dearest = max([giver.worth for giver in short if full[kind] and giver.kind == kind], default=0)
        prices.append(max(dearest - plant_price, 0))
    return prices + [plant_price]


def fits_worth(giver, watts, share, price):
    """Whether a giver's share is what its worth asks for at its class's and the plant's price together."""
    if share < watts and giver.worth > price:
        return False
    return share == 0 or giver.worth >= price


def is_proof(givers, able, shares, limits, prices):
    """Whether prices of classes 0 to 7 and the plant prove that shares lose least."""
    if not is_allowed(givers, able, shares, limits):
        return False
    full = full_classes(givers, shares, limits)
    for kind in range(CLASSES):
        if prices[kind] != 0 and not full[kind]:
            return False
    if prices[PLANT] != 0 and sum(shares) != limits[PLANT]:
        return False
    for giver, watts, share in zip(givers, able, shares):
        if not fits_worth(giver, watts, share, prices[giver.kind] + prices[PLANT]):
            return False
    return True
