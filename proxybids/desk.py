"""A sale that goes on, with undo and redo."""

from proxybids.errors import InvalidBid, InvalidPrice, NothingToUndo, TooLarge
from proxybids.running import last_state, refuses
from proxybids.sales import MOST_BIDS, check_sale, fits, is_bid


def effect(before, after):
    """Return the word for what a bid that is not refused has made of a state."""
    if after[0] != before[0]:
        return "leads"
    return "raised" if after[1] > before[1] else "kept"


class Desk:
    """A sale and the bids so far; what can be undone and redone is kept as earlier ones."""

    def __init__(self, sale):
        check_sale(sale)
        self._sale = sale
        # A tuple, which the copies and the earlier ones can share.
        self._bids = ()
        self._past = []
        self._undone = []

    def __eq__(self, other):
        return isinstance(other, Desk) and self._sale == other._sale and self._bids == other._bids

    def __len__(self):
        return len(self._bids)

    def bids(self):
        """Return the list of all bids so far."""
        return list(self._bids)

    def result(self):
        """Return the state after all bids."""
        return last_state(self._sale, self._bids)

    def bid(self, bidder, amount):
        """Add a bid and return what it did: refused, leads, raised or kept."""
        added = (bidder, amount)
        if not is_bid(added):
            raise InvalidBid("bidder and amount are not a bid")
        if len(self._bids) >= MOST_BIDS:
            raise TooLarge("there are 8 bids already")
        before = self.result()
        self._change(self._sale, self._bids + (added,))
        if refuses(self._sale, before, added):
            return "refused"
        return effect(before, self.result())

    def lower(self, reserve):
        """Make the reserve less and return the state that all bids give then."""
        steps, start, present = self._sale
        if not fits(reserve, start, present - 1):
            raise InvalidPrice("reserve is not an integer from start to the present one less 1")
        self._change((steps, start, reserve), self._bids)
        return self.result()

    def undo(self):
        """Revert the last call of bid or lower."""
        if self._past == []:
            raise NothingToUndo("there is nothing to undo")
        self._undone.append((self._sale, self._bids))
        self._sale, self._bids = self._past.pop()

    def redo(self):
        """Perform the last undone call again."""
        if self._undone == []:
            raise NothingToUndo("there is nothing to redo")
        self._past.append((self._sale, self._bids))
        self._sale, self._bids = self._undone.pop()

    def copy(self):
        """Return an independent desk with the same sale, bids, history and redo list."""
        twin = Desk(self._sale)
        twin._bids = self._bids
        twin._past = list(self._past)
        twin._undone = list(self._undone)
        return twin

    def _change(self, sale, bids):
        """Put a sale and bids in place of the present ones, which can be undone."""
        self._past.append((self._sale, self._bids))
        self._undone = []
        self._sale = sale
        self._bids = bids
