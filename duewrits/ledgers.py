"""Ledgers: what is paid on claims, and taken back; and amounts that are shared."""

from duewrits.errors import NotAllowed
from duewrits.spans import total


class Ledger:
    """The payments, tuples of a claim, a day and an amount, in order."""

    def __init__(self):
        self._payments = []

    def settle(self, book, claim, known):
        """Pay what the claim's total lacks, or take back what is too much; return the amount."""
        if self._payments and known < self._payments[-1][1]:
            raise NotAllowed("the day is before that of the last payment")
        found = total(book, claim, known)
        if found[0] == "stopped":
            return 0
        amount = found[1] - self.paid(claim)
        if amount != 0:
            self._payments.append((claim, known, amount))
        return amount

    def paid(self, claim):
        """Return the sum of the payments on a claim."""
        return sum([amount for paid_on, _, amount in self._payments if paid_on == claim])

    def payments(self):
        """Return the list of the payments, in order."""
        return list(self._payments)


def share(amount, weights):
    """Return the part of an amount that each weight gets; the parts add up to it."""
    check_weights(weights)
    whole = sum(weights)
    parts = [amount * weight // whole for weight in weights]
    left_over = amount - sum(parts)
    for at in by_remainder(amount, weights)[:left_over]:
        parts[at] += 1
    return parts


def check_weights(weights):
    """Raise what is due for weights among which nothing can be shared."""
    if not weights:
        raise NotAllowed("there are no weights")
    if min(weights) < 0:
        raise NotAllowed("a weight is below 0")
    if max(weights) == 0:
        raise NotAllowed("all weights are 0")


def by_remainder(amount, weights):
    """Return the indexes of the weights, the greatest remainder first, then the lesser index."""
    whole = sum(weights)
    ranks = [(-(amount * weight % whole), at) for at, weight in enumerate(weights)]
    return [at for _, at in sorted(ranks)]
