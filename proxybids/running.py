"""What happens in a sale: the states, the refused bids and the winner."""

from proxybids.errors import InvalidBids
from proxybids.sales import are_bids, check_sale, price_after

NO_LEADER = ("", 0, 0)


def least_taken(sale, state, bidder):
    """Return the least amount with which a bid of a bidder is not refused."""
    leader, price, amount = state
    if leader == "":
        return sale[1]
    if bidder == leader:
        return amount + 1
    return price_after(sale[0], price)


def refuses(sale, state, bid):
    """Return whether a bid is refused in a state."""
    bidder, amount = bid
    return amount < least_taken(sale, state, bidder)


def before_reserve(sale, state, bid):
    """Return the state after a bid that is not refused, the reserve left aside."""
    leader, price, held = state
    bidder, amount = bid
    if leader == "":
        return bidder, sale[1], amount
    if bidder == leader:
        return leader, price, amount
    if amount <= held:
        return leader, min(held, price_after(sale[0], amount)), held
    return bidder, min(amount, price_after(sale[0], held)), amount


def state_after(sale, state, bid):
    """Return the state that a bid makes of a state."""
    if refuses(sale, state, bid):
        return state
    leader, price, held = before_reserve(sale, state, bid)
    reserve = sale[2]
    if price < reserve <= held:
        price = reserve
    return leader, price, held


def last_state(sale, bids):
    """Return the state after all bids, which are known to be right."""
    state = NO_LEADER
    for bid in bids:
        state = state_after(sale, state, bid)
    return state


def succeeds(sale, state):
    """Return whether a sale succeeds in a state."""
    # Without a leader the amount is 0, which is less than every reserve.
    return state[2] >= sale[2]


def check_bids(bids):
    """Raise an error if a value is not bids."""
    if not are_bids(bids):
        raise InvalidBids("bids are not a list of at most 8 bids")


def checked_bids(sale, bids):
    """Return a new list of the bids, after asking whether sale and bids are right."""
    check_sale(sale)
    check_bids(bids)
    return list(bids)


def states(sale, bids):
    """Return the list of the states after each of the bids."""
    found = []
    state = NO_LEADER
    for bid in checked_bids(sale, bids):
        state = state_after(sale, state, bid)
        found.append(state)
    return found


def result(sale, bids):
    """Return the state after all bids."""
    return last_state(sale, checked_bids(sale, bids))


def refused(sale, bids):
    """Return the ascending list of the indexes of the bids that are refused."""
    before = [NO_LEADER] + states(sale, bids)
    return [index for index, bid in enumerate(bids) if refuses(sale, before[index], bid)]


def winner(sale, bids):
    """Return the winner, or None if the sale does not succeed."""
    state = result(sale, bids)
    return state[0] if succeeds(sale, state) else None


def leads(sale, bids):
    """Return the list of the numbers of changes of the leader up to each bid."""
    numbers = []
    number = 0
    before = NO_LEADER
    for state in states(sale, bids):
        if state[0] != before[0]:
            number += 1
        numbers.append(number)
        before = state
    return numbers
