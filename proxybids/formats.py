"""Bids, and what becomes of them, as text."""

from proxybids.errors import ParseError
from proxybids.running import check_bids, refused, states
from proxybids.sales import are_bids, is_bid

MOST_DIGITS = 3


def format_bid(bid):
    """Return the format of a bid."""
    bidder, amount = bid
    return f"{bidder}:{amount}"


def format_bids(bids):
    """Return the format of bids."""
    check_bids(bids)
    return " ".join([format_bid(bid) for bid in bids])


def parse_bid(text):
    """Return the bid whose format is text."""
    bidder, _, digits = text.partition(":")
    # Python reads digits of other scripts, too, and fails for very long numbers.
    if not digits.isascii() or not digits.isdigit() or len(digits) > MOST_DIGITS:
        raise ParseError("a bid has no amount from 1 to 200")
    bid = (bidder, int(digits))
    # A number with leading zeros is a right amount, but not its format.
    if not is_bid(bid) or format_bid(bid) != text:
        raise ParseError("a part of the text is not the format of a bid")
    return bid


def parse_bids(text):
    """Return the bids whose format is text."""
    if not isinstance(text, str):
        raise ParseError("text is not a string")
    # No bids have an empty format, but splitting it gives one part.
    parts = text.split(" ") if text != "" else []
    bids = [parse_bid(part) for part in parts]
    if not are_bids(bids):
        raise ParseError("there are more than 8 bids")
    return bids


def format_lead(state):
    """Return the leader and the price of a state, or a sign that there is no leader."""
    leader, price, _ = state
    return f"{leader}:{price}" if leader != "" else "-"


def journal(sale, bids):
    """Return the list of one string for each bid that tells what becomes of it."""
    after = states(sale, bids)
    out = refused(sale, bids)
    lines = []
    for index, bid in enumerate(bids):
        ending = " refused" if index in out else ""
        lines.append(f"{format_bid(bid)} -> {format_lead(after[index])}{ending}")
    return lines
