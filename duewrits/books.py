"""Books: reports, enactments and strikes, and what stands as known on a day."""

from duewrits.errors import NotAllowed
from duewrits.forms import is_day, is_name, is_span, is_value
from duewrits.texts import parse_amount

MOST_ENTRIES = 100


class Book:
    """The entries in the order in which they came."""

    def __init__(self):
        self._entries = []
        # The day on which each entry was struck, by the entry's index.
        self._struck = {}
        # The parsed text of each enactment, by its index: readings ask for it often.
        self._amounts = {}

    def enter(self, entry):
        """Take an entry, or raise the error that is due and take nothing."""
        self._check_turn(entry[1])
        if entry[0] == "report":
            check_report(entry)
        elif entry[0] == "enact":
            self._amounts[len(self._entries)] = checked_amount(entry)
        else:
            self._check_strike(entry[2])
            self._struck[entry[2]] = entry[1]
        self._entries.append(tuple(entry))

    def entries(self):
        """Return the list of the entries, in order."""
        return list(self._entries)

    def _check_turn(self, came):
        if len(self._entries) >= MOST_ENTRIES:
            raise NotAllowed("a book takes at most 100 entries")
        if not is_day(came):
            raise NotAllowed("the entry came on no day")
        if self._entries and came < self._entries[-1][1]:
            raise NotAllowed("the entry came before the last one")

    def _check_strike(self, index):
        if not 0 <= index < len(self._entries):
            raise NotAllowed("there is no entry of this index")
        if self._entries[index][0] == "strike":
            raise NotAllowed("a strike cannot be struck")
        if index in self._struck:
            raise NotAllowed("the entry has been struck before")


def check_report(entry):
    """Raise what is due for a report, its day and its turn aside."""
    person, fact, value, span = entry[2:]
    if not is_name(person) or not is_name(fact):
        raise NotAllowed("the person or the fact is no name")
    if not is_value(value):
        raise NotAllowed("the value has more than 9 digits")
    check_span(span)


def checked_amount(entry):
    """Return an enactment's parsed text, or raise what is due, its day and its turn aside."""
    rule, text, span = entry[2:]
    if not is_name(rule):
        raise NotAllowed("the rule is no name")
    amount = parse_amount(text)
    check_span(span)
    return amount


def check_span(span):
    """Raise what is due for a span that is none."""
    if not is_span(span):
        raise NotAllowed("the span is not valid")


def stands(book, index, known):
    """Return whether the entry of this index stands as known on a day."""
    if not 0 <= index < len(book._entries):
        return False
    entry = book._entries[index]
    if entry[0] == "strike" or entry[1] > known:
        return False
    return index not in book._struck or book._struck[index] > known


def fact_at(book, person, fact, day, known):
    """Return the index of the report of a fact that counts on a day, or None."""
    for index in reversed(range(len(book._entries))):
        entry = book._entries[index]
        told = entry[0] == "report" and entry[2] == person and entry[3] == fact
        if told and holds(book, index, day, known):
            return index
    return None


def rule_at(book, rule, day, known):
    """Return the index of the enactment of a rule that counts on a day, or None."""
    for index in reversed(range(len(book._entries))):
        entry = book._entries[index]
        told = entry[0] == "enact" and entry[2] == rule
        if told and holds(book, index, day, known):
            return index
    return None


def holds(book, index, day, known):
    """Return whether a report or an enactment stands and its span has the day."""
    first, after = book._entries[index][-1]
    return first <= day < after and stands(book, index, known)


def value_of(book, index):
    """Return the value that the report of this index tells."""
    return book._entries[index][4]


def amount_of(book, index):
    """Return the expression that the text of the enactment of this index writes."""
    return book._amounts[index]


def book_of(entries):
    """Return a new book that took these entries."""
    book = Book()
    for entry in entries:
        book.enter(entry)
    return book


def book_with(book, entry):
    """Return a new book with the entries of this one that took another entry."""
    grown = Book()
    grown._entries = list(book._entries)
    grown._struck = dict(book._struck)
    grown._amounts = dict(book._amounts)
    grown.enter(entry)
    return grown
