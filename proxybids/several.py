"""Several equal things that are sold at once, at a common price."""

from proxybids.errors import InvalidNumber
from proxybids.orders import checked_single
from proxybids.sales import fits

MOST_THINGS = 6


def checked_lot(sale, bids, many):
    """Return a new list of the bids, after asking whether sale, bids and many are right."""
    rows = checked_single(sale, bids)
    if not fits(many, 1, MOST_THINGS):
        raise InvalidNumber("many is not an integer from 1 to 6")
    return rows


def ranked(sale, bids):
    """Return the list of the bids that count, in the order in which they win."""
    counting = [bid for bid in bids if bid[1] >= sale[2]]
    # Sorting keeps the order of arrival of equal amounts.
    return sorted(counting, key=lambda bid: -bid[1])


def price_of(sale, rank, many):
    """Return the common price that ranked bids lead to."""
    return rank[many][1] if many < len(rank) else sale[2]


def income_of(sale, rank, many):
    """Return the income that ranked bids lead to."""
    return price_of(sale, rank, many) * min(many, len(rank))


def sold_to(sale, bids, many):
    """Return the ascending string of the winners."""
    rank = ranked(sale, checked_lot(sale, bids, many))
    return "".join(sorted([bid[0] for bid in rank[:many]]))


def common_price(sale, bids, many):
    """Return the price that all winners pay."""
    return price_of(sale, ranked(sale, checked_lot(sale, bids, many)), many)


def income(sale, bids, many):
    """Return what all winners pay together."""
    return income_of(sale, ranked(sale, checked_lot(sale, bids, many)), many)


def best_many(sale, bids):
    """Return the first number of things with the greatest income."""
    rank = ranked(sale, checked_single(sale, bids))
    incomes = [income_of(sale, rank, many) for many in range(1, MOST_THINGS + 1)]
    return incomes.index(max(incomes)) + 1
