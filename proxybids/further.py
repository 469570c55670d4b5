"""What one further bid can do, also one behind the 8 bids that a list can have."""

from proxybids.errors import InvalidBid, InvalidBidder
from proxybids.running import least_taken, result, state_after
from proxybids.sales import MOST_PRICE, is_bid, is_bidder, price_after


def state_for(sale, bids, bidder):
    """Return the state in which a bidder makes a further bid."""
    state = result(sale, bids)
    if not is_bidder(bidder):
        raise InvalidBidder("bidder is not a letter a to f")
    return state


def least_accepted(sale, bids, bidder):
    """Return the least amount with which a further bid is not refused, or None."""
    state = state_for(sale, bids, bidder)
    amount = least_taken(sale, state, bidder)
    return amount if amount <= MOST_PRICE else None


def least_leading(sale, bids, bidder):
    """Return the least amount of a further bid with which a bidder leads, or None."""
    state = state_for(sale, bids, bidder)
    if state[0] == bidder:
        return 0
    # The leader's amount can be less than the next price, which the bid must reach, too.
    amount = max(least_taken(sale, state, bidder), state[2] + 1)
    return amount if amount <= MOST_PRICE else None


def price_with(sale, bids, bid):
    """Return the price after a further bid."""
    state = result(sale, bids)
    if not is_bid(bid):
        raise InvalidBid("bid is not a bid")
    return state_after(sale, state, bid)[1]


def greatest_price(sale, bids):
    """Return the greatest price that a further bid without taking the lead makes, or None."""
    leader, price, amount = result(sale, bids)
    if leader == "" or price_after(sale[0], price) > amount:
        return None
    # A bid of just the leader's amount makes it the price, which is never greater.
    return amount
