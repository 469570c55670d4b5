"""The same as other functions, computed in the plainest way."""

from proxybids.further import state_for
from proxybids.running import state_after
from proxybids.sales import MOST_PRICE
from proxybids.several import checked_lot


def naive_leading(sale, bids, bidder):
    """Return the least amount of a further bid with which a bidder leads, or None."""
    state = state_for(sale, bids, bidder)
    if state[0] == bidder:
        return 0
    for amount in range(1, MOST_PRICE + 1):
        if state_after(sale, state, (bidder, amount))[0] == bidder:
            return amount
    return None


def ahead(bids, index):
    """Return how many bids are ahead of the bid with an index."""
    amount = bids[index][1]
    number = 0
    for other, bid in enumerate(bids):
        if bid[1] > amount or (bid[1] == amount and other < index):
            number += 1
    return number


def naive_sold(sale, bids, many):
    """Return the ascending string of the winners of several equal things."""
    rows = checked_lot(sale, bids, many)
    winners = []
    for index, (bidder, amount) in enumerate(rows):
        # Whatever is ahead of a bid that counts has at least its amount, and counts, too.
        if amount >= sale[2] and ahead(rows, index) < many:
            winners.append(bidder)
    return "".join(sorted(winners))
