"""Desks: a book, a ledger and standing claims, and the journal of all deeds."""

from duewrits.books import Book, book_with, check_span
from duewrits.errors import NotAllowed, UnknownName
from duewrits.forms import is_name
from duewrits.ledgers import Ledger
from duewrits.spans import total

MOST_CLAIMS = 6
MOST_DEEDS = 150


class Desk:
    """A book, a ledger, the claims that stand under names, and the deeds that were taken."""

    def __init__(self):
        self._book = Book()
        self._ledger = Ledger()
        # The claims by their names, in the order in which they stand.
        self._claims = {}
        self._journal = []

    def do(self, deed):
        """Take a deed, or raise the error that is due and change nothing."""
        if deed[0] == "enter":
            self._enter(deed[1])
        elif deed[0] == "stand":
            self._stand(deed[1], deed[2])
        elif deed[0] == "drop":
            self._drop(deed[1])
        else:
            self._settle(deed[1], deed[2])
        self._journal.append(tuple(deed))

    def totals(self, known):
        """Return the names and the totals of the claims that stand, in order."""
        return [(name, total(self._book, self._claims[name], known)) for name in self._claims]

    def changes(self, entry):
        """Return the names and the totals, without and with an entry, that it would change."""
        grown = book_with(self._book, entry)
        changed = []
        for name, claim in self._claims.items():
            before = total(self._book, claim, entry[1])
            after = total(grown, claim, entry[1])
            if before != after:
                changed.append((name, before, after))
        return changed

    def entries(self):
        """Return the list of the book's entries, in order."""
        return self._book.entries()

    def payments(self):
        """Return the list of the ledger's payments, in order."""
        return self._ledger.payments()

    def journal(self):
        """Return the list of the deeds that were taken, in order."""
        return list(self._journal)

    # Each of these asks for room behind all else that may be refused, and
    # changes something only after that.

    def _enter(self, entry):
        grown = book_with(self._book, entry)
        self._check_room()
        self._book = grown

    def _stand(self, name, claim):
        check_claim(name, claim)
        if name not in self._claims and len(self._claims) >= MOST_CLAIMS:
            raise NotAllowed("at most 6 claims stand")
        self._check_room()
        self._claims[name] = tuple(claim)

    def _drop(self, name):
        self._check_standing(name)
        self._check_room()
        del self._claims[name]

    def _settle(self, name, known):
        self._check_standing(name)
        # The ledger pays at once. What it raises is NotAllowed, as here, so none
        # can tell which of the two comes first.
        self._check_room()
        self._ledger.settle(self._book, self._claims[name], known)

    def _check_standing(self, name):
        if name not in self._claims:
            raise UnknownName("no claim stands under this name")

    def _check_room(self):
        if len(self._journal) >= MOST_DEEDS:
            raise NotAllowed("a desk takes at most 150 deeds")


def check_claim(name, claim):
    """Raise what is due for a name and a claim that are none."""
    person, rule, span = claim
    if not is_name(name):
        raise NotAllowed("the name is none")
    if not is_name(person) or not is_name(rule):
        raise NotAllowed("the person or the rule of the claim is no name")
    check_span(span)


def replay(journal):
    """Return a new desk that took these deeds."""
    desk = Desk()
    for deed in journal:
        desk.do(deed)
    return desk


def exchanged(entries, at):
    """Return the entries with those at this index and the next one exchanged."""
    if not 0 <= at < len(entries) - 1:
        raise NotAllowed("there are no entries at both of these indexes")
    check_exchange(entries[at], entries[at + 1])
    turned = [turned_strike(entry, at) for entry in entries]
    turned[at], turned[at + 1] = turned[at + 1], turned[at]
    return turned


def check_exchange(first, second):
    """Raise what is due for two neighbours whose order may count."""
    if first[1] != second[1]:
        raise NotAllowed("the two came on different days")
    if first[0] == "strike" or second[0] == "strike":
        raise NotAllowed("one of the two is a strike")
    if subject_of(first) == subject_of(second):
        raise NotAllowed("the two are of the same person and fact, or of the same rule")


def subject_of(entry):
    """Return of what a report or an enactment tells: of a person's fact, or of a rule."""
    if entry[0] == "report":
        return ("report", entry[2], entry[3])
    return ("enact", entry[2])


def turned_strike(entry, at):
    """Return the entry; if it strikes one of the two that are exchanged, at its new index."""
    if entry[0] != "strike" or entry[2] not in (at, at + 1):
        return entry
    return ("strike", entry[1], 2 * at + 1 - entry[2])
