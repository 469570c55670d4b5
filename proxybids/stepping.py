"""A bidder who bids step by step, up to a limit."""

from proxybids.errors import InvalidPrice
from proxybids.further import price_with, state_for
from proxybids.running import least_taken, state_after
from proxybids.sales import MOST_PRICE, fits


def climbed(sale, bids, bidder, limit):
    """Return the list of the amounts of the steps, and the state after them."""
    state = state_for(sale, bids, bidder)
    if not fits(limit, 1, MOST_PRICE):
        raise InvalidPrice("limit is not an integer from 1 to 200")
    amounts = []
    amount = least_taken(sale, state, bidder)
    while state[0] != bidder and amount <= limit:
        amounts.append(amount)
        state = state_after(sale, state, (bidder, amount))
        amount = least_taken(sale, state, bidder)
    return amounts, state


def step_bids(sale, bids, bidder, limit):
    """Return the list of the amounts that a bidder bids step by step."""
    return climbed(sale, bids, bidder, limit)[0]


def after_steps(sale, bids, bidder, limit):
    """Return the state after a bidder has bid step by step."""
    return climbed(sale, bids, bidder, limit)[1]


def gain(sale, bids, bidder, limit):
    """Return how much less the price is after the steps than after one bid of the limit."""
    # The steps come first, since they tell which of the arguments is wrong.
    price = after_steps(sale, bids, bidder, limit)[1]
    return price_with(sale, bids, (bidder, limit)) - price
