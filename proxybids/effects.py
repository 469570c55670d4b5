"""What would be otherwise without one of the bids."""

from proxybids.errors import InvalidIndex
from proxybids.running import checked_bids, last_state, result
from proxybids.sales import fits


def states_without(sale, bids):
    """Return the list of the states after all bids but one, for each of the bids."""
    rows = checked_bids(sale, bids)
    found = []
    for index in range(len(rows)):
        found.append(last_state(sale, rows[:index] + rows[index + 1:]))
    return found


def without_bid(sale, bids, index):
    """Return the state after all bids but the one with an index."""
    found = states_without(sale, bids)
    if not fits(index, 0, len(found) - 1):
        raise InvalidIndex("there is no bid with this index")
    return found[index]


def raisers(sale, bids):
    """Return the indexes of the bids without which the price is less, the leader the same."""
    leader, price, _ = result(sale, bids)
    found = []
    for index, state in enumerate(states_without(sale, bids)):
        if state[0] == leader and state[1] < price:
            found.append(index)
    return found


def needless(sale, bids):
    """Return the indexes of the bids without which the state is the same."""
    last = result(sale, bids)
    return [index for index, state in enumerate(states_without(sale, bids)) if state == last]


def deciding(sale, bids):
    """Return the indexes of the bids without which the leader is another one, or none."""
    leader = result(sale, bids)[0]
    return [index for index, state in enumerate(states_without(sale, bids)) if state[0] != leader]
