"""The rules of [0.4], [0.6] and [0.7], written once more in the order of the text."""


def following(steps, price):
    """Return the next price after a price."""
    return price + [step for bound, step in steps if bound <= price][-1]


class Model:
    """A sale as the text tells it, with what was refused and how often the leader changed."""

    def __init__(self, sale, bids):
        self.steps, self.start, self.reserve = sale
        self.leader, self.price, self.amount = "", 0, 0
        self.states, self.refused, self.leads = [], [], []
        self.changes = 0
        for index, (bidder, amount) in enumerate(bids):
            if not self.add(bidder, amount):
                self.refused.append(index)
            self.states.append((self.leader, self.price, self.amount))
            self.leads.append(self.changes)

    def add(self, bidder, amount):
        """Add a bid, and return whether it is not refused."""
        is_taken = self.takes(bidder, amount)
        if is_taken and self.amount >= self.reserve and self.price < self.reserve:
            self.price = self.reserve
        return is_taken

    def takes(self, bidder, amount):
        if not self.leader:
            if amount < self.start:
                return False
            self.lead(bidder, amount, self.start)
            return True
        if bidder == self.leader:
            if amount <= self.amount:
                return False
            self.amount = amount
            return True
        if amount < following(self.steps, self.price):
            return False
        if amount <= self.amount:
            self.price = sorted([self.amount, following(self.steps, amount)])[0]
        else:
            self.lead(bidder, amount, sorted([amount, following(self.steps, self.amount)])[0])
        return True

    def lead(self, bidder, amount, price):
        self.leader, self.amount, self.price = bidder, amount, price
        self.changes += 1

    def state(self):
        return self.leader, self.price, self.amount

    def winner(self):
        return self.leader if self.leader and self.amount >= self.reserve else None
