"""Steps, sales and bids, and the prices that follow one another."""

from proxybids.errors import InvalidPrice, InvalidSale

LETTERS = "abcdef"
MOST_STEPS = 4
MOST_BIDS = 8
MOST_START = 100
MOST_PRICE = 200
MOST_STEP = 50


def fits(value, least, most):
    """Return whether a value is an integer from least to most."""
    # A boolean is an int to Python, but no integer to the document.
    if not isinstance(value, int) or isinstance(value, bool):
        return False
    return least <= value <= most


def is_pair(candidate):
    """Return whether candidate is a tuple of two values."""
    return isinstance(candidate, tuple) and len(candidate) == 2


def is_step(candidate):
    """Return whether candidate is a tuple (bound, step)."""
    if not is_pair(candidate):
        return False
    bound, step = candidate
    return fits(bound, 0, MOST_PRICE) and fits(step, 1, MOST_STEP)


def ascend(steps):
    """Return whether bounds and steps both become greater from tuple to tuple."""
    for earlier, later in zip(steps, steps[1:]):
        if earlier[0] >= later[0] or earlier[1] >= later[1]:
            return False
    return True


def are_steps(candidate):
    """Return whether candidate is the steps of a sale."""
    if not isinstance(candidate, tuple) or not 1 <= len(candidate) <= MOST_STEPS:
        return False
    for step in candidate:
        if not is_step(step):
            return False
    return candidate[0][0] == 0 and ascend(candidate)


def is_sale(candidate):
    """Return whether candidate is a sale."""
    if not isinstance(candidate, tuple) or len(candidate) != 3:
        return False
    steps, start, reserve = candidate
    # The reserve is compared with start, so start must be known to be an integer.
    return are_steps(steps) and fits(start, 1, MOST_START) and fits(reserve, start, MOST_PRICE)


def is_bidder(candidate):
    """Return whether candidate is a letter a to f."""
    # The length is asked because "" and "ab" are in LETTERS, too.
    return isinstance(candidate, str) and len(candidate) == 1 and candidate in LETTERS


def is_bid(candidate):
    """Return whether candidate is a bid."""
    if not is_pair(candidate):
        return False
    bidder, amount = candidate
    return is_bidder(bidder) and fits(amount, 1, MOST_PRICE)


def are_bids(candidate):
    """Return whether candidate is bids."""
    if not isinstance(candidate, list) or len(candidate) > MOST_BIDS:
        return False
    for bid in candidate:
        if not is_bid(bid):
            return False
    return True


def price_after(steps, price):
    """Return the next price after a price."""
    reached = [step for bound, step in steps if bound <= price]
    return price + reached[-1]


def check_sale(sale):
    """Raise an error if a value is not a sale."""
    if not is_sale(sale):
        raise InvalidSale("sale is not a sale")


def next_price(sale, price):
    """Return the next price after a price."""
    check_sale(sale)
    if not fits(price, 0, MOST_PRICE):
        raise InvalidPrice("price is not an integer from 0 to 200")
    return price_after(sale[0], price)


def climb(sale, price, most):
    """Return the list of the prices from a price up to most."""
    further = next_price(sale, price)
    if not fits(most, 0, MOST_PRICE):
        raise InvalidPrice("most is not an integer from 0 to 200")
    prices = [price]
    while further <= most:
        prices.append(further)
        further = price_after(sale[0], further)
    return prices
