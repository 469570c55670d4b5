"""The errors that the functions of the package raise."""


class BidError(ValueError):
    """The base of all errors of the package."""


class InvalidSale(BidError):
    """A value is not a sale."""


class InvalidPrice(BidError):
    """A value is not a price, or not within the bounds for it."""


class InvalidBids(BidError):
    """A value is not bids."""


class Repeated(BidError):
    """A bidder has two bids where only one is allowed."""


class InvalidBidder(BidError):
    """A value is not a bidder."""


class InvalidBid(BidError):
    """A value is not a bid."""


class InvalidIndex(BidError):
    """There is no bid with this index."""


class InvalidNumber(BidError):
    """A value is not a number of things."""


class InvalidTimed(BidError):
    """A value is not timed bids."""


class InvalidTime(BidError):
    """A value is not a time, or not a span."""


class TooLarge(BidError):
    """There are as many bids as a sale can have."""


class NothingToUndo(BidError):
    """There is nothing to undo or to redo."""


class ParseError(BidError):
    """A text is not the format of any bids."""
