"""Bids that come at times, and late ones that make the sale longer."""

from proxybids.errors import InvalidTime, InvalidTimed
from proxybids.running import NO_LEADER, refuses, state_after
from proxybids.sales import MOST_BIDS, check_sale, fits, is_bid

MOST_TIME = 100
MOST_SPAN = 20


def is_timed_bid(candidate):
    """Return whether candidate is a tuple (time, bidder, amount)."""
    if not isinstance(candidate, tuple) or len(candidate) != 3:
        return False
    return fits(candidate[0], 0, MOST_TIME) and is_bid(candidate[1:])


def are_timed(candidate):
    """Return whether candidate is timed bids."""
    if not isinstance(candidate, list) or len(candidate) > MOST_BIDS:
        return False
    before = 0
    for row in candidate:
        if not is_timed_bid(row) or row[0] < before:
            return False
        before = row[0]
    return True


def check_timed(sale, timed, end):
    """Raise an error if sale, timed or end is wrong."""
    check_sale(sale)
    if not are_timed(timed):
        raise InvalidTimed("timed are not a list of at most 8 timed bids")
    if not fits(end, 0, MOST_TIME):
        raise InvalidTime("end is not an integer from 0 to 100")


def course(sale, timed, end, span):
    """Return how many bids are counted, and the end and the state at last."""
    number = 0
    state = NO_LEADER
    for time, bidder, amount in timed:
        # Times never fall, so all further bids come behind the end, too.
        if time > end:
            break
        number += 1
        bid = (bidder, amount)
        if not refuses(sale, state, bid):
            # More than span before the end, time and span together are less than it.
            end = max(end, time + span)
            state = state_after(sale, state, bid)
    return number, end, state


def checked_course(sale, timed, end, span):
    """Return the course of a sale, after asking whether all arguments are right."""
    check_timed(sale, timed, end)
    if not fits(span, 0, MOST_SPAN):
        raise InvalidTime("span is not an integer from 0 to 20")
    return course(sale, timed, end, span)


def closing_time(sale, timed, end, span):
    """Return the time at which the sale ends at last."""
    return checked_course(sale, timed, end, span)[1]


def counted(sale, timed, end, span):
    """Return the ascending list of the indexes of the bids that are counted."""
    return list(range(checked_course(sale, timed, end, span)[0]))


def final(sale, timed, end, span):
    """Return the state at the end."""
    return checked_course(sale, timed, end, span)[2]


def least_span(sale, timed, end):
    """Return the least span with which all bids are counted, or None."""
    check_timed(sale, timed, end)
    for span in range(MOST_SPAN + 1):
        if course(sale, timed, end, span)[0] == len(timed):
            return span
    return None
