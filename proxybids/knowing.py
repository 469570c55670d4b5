"""What those who do not lead can know about the highest bid of the leader."""

from proxybids.running import NO_LEADER, checked_bids, refuses, result, state_after
from proxybids.sales import MOST_PRICE


def view(sale, bids):
    """Return the list of what others see of each bid: the leader, the price, a refusal."""
    seen = []
    state = NO_LEADER
    for bid in bids:
        is_out = refuses(sale, state, bid)
        state = state_after(sale, state, bid)
        seen.append((state[0], state[1], is_out))
    return seen


def last_taken(bids, seen):
    """Return the index of the last bid of the last leader that was not refused."""
    leader = seen[-1][0]
    taken = [index for index, bid in enumerate(bids) if bid[0] == leader and not seen[index][2]]
    return taken[-1]


def known_amount(sale, bids):
    """Return the least and the greatest amount that the leader can have, or None."""
    rows = checked_bids(sale, bids)
    seen = view(sale, rows)
    if rows == [] or seen[-1][0] == "":
        return None
    index = last_taken(rows, seen)
    bidder = rows[index][0]
    possible = []
    for amount in range(1, MOST_PRICE + 1):
        if view(sale, rows[:index] + [(bidder, amount)] + rows[index + 1:]) == seen:
            possible.append(amount)
    return possible[0], possible[-1]


def is_known(sale, bids):
    """Return whether others know the leader's amount."""
    known = known_amount(sale, bids)
    return known is not None and known[0] == known[1]


def still_to_pay(sale, bids):
    """Return how much the leader's amount is greater than the price."""
    # Without a leader both are 0.
    _, price, amount = result(sale, bids)
    return amount - price
