"""What bids lead to if they arrive in another order."""

from itertools import permutations

from proxybids.errors import Repeated
from proxybids.running import check_bids, checked_bids, last_state, succeeds


def are_single(bids):
    """Return whether bids are of different bidders."""
    check_bids(bids)
    return len({bid[0] for bid in bids}) == len(bids)


def checked_single(sale, bids):
    """Return a new list of the bids, after asking also whether they are of different bidders."""
    rows = checked_bids(sale, bids)
    if not are_single(rows):
        raise Repeated("a bidder has two bids")
    return rows


def all_orders(bids):
    """Return the ascending list of the orders of different bids, each one a list."""
    # The orders of a sorted list come in Python's order.
    ordered = sorted(bids)
    return [list(order) for order in permutations(ordered)]


def all_ends(sale, bids):
    """Return the list of all orders, ascending, each in a tuple with the state at its end."""
    rows = checked_single(sale, bids)
    return [(order, last_state(sale, order)) for order in all_orders(rows)]


def end_price(end):
    """Return the price of an order with the state at its end."""
    return end[1][1]


def possible_winners(sale, bids):
    """Return the ascending list of the winners in all orders."""
    ends = all_ends(sale, bids)
    return sorted({state[0] for order, state in ends if succeeds(sale, state)})


def possible_prices(sale, bids):
    """Return the ascending list of the prices at the end in all orders."""
    ends = all_ends(sale, bids)
    return sorted({state[1] for order, state in ends})


def does_order_matter(sale, bids):
    """Return whether two orders have different leaders or prices at the end."""
    ends = all_ends(sale, bids)
    return len({(state[0], state[1]) for order, state in ends}) > 1


def dearest_order(sale, bids):
    """Return the first order with the greatest price at the end."""
    ends = all_ends(sale, bids)
    # Of several greatest ones, max takes the earliest, and the orders ascend.
    return max(ends, key=end_price)[0]


def cheapest_order(sale, bids):
    """Return the first order with the least price at the end."""
    ends = all_ends(sale, bids)
    return min(ends, key=end_price)[0]
