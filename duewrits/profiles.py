"""Profiles: what would be decided for each value that a fact could have."""

from duewrits.books import book_of, book_with
from duewrits.decisions import decide
from duewrits.errors import NotAllowed
from duewrits.forms import is_value
from duewrits.reasons import speakers

MOST_VALUES = 200
MOST_SPEAKERS = 99


def profile(book, question, fact, low, high):
    """Return the runs of the decisions for the values from low to the one before high."""
    check_values(low, high)
    decisions = supposed_decisions(book, question, fact, low, high)
    runs = []
    at = 0
    while at < len(decisions):
        after = end_of_run(decisions, at)
        runs.append(run_of(decisions, at, after, low))
        at = after
    return runs


def check_values(low, high):
    """Raise what is due for values between which no profile is told."""
    if not low < high:
        raise NotAllowed("the low value is not below the high one")
    if high - low > MOST_VALUES:
        raise NotAllowed("the values are more than 200 apart")
    if not is_value(low) or not is_value(high):
        raise NotAllowed("a value has more than 9 digits")


def supposed_decisions(book, question, fact, low, high):
    """Return what would be decided for each value of the fact from low to the one before high."""
    person, _, day, known = question
    heard = speakers(book, question)
    if len(heard) > MOST_SPEAKERS:
        raise NotAllowed("100 entries speak for the question")
    # The decision hangs on those that speak alone, and these leave room for a report.
    entries = book.entries()
    heard_book = book_of([entries[index] for index in heard])
    decisions = []
    for value in range(low, high):
        supposed = ("report", known, person, fact, value, (day, day + 1))
        decisions.append(decide(book_with(heard_book, supposed), question)[0])
    return decisions


def end_of_run(decisions, at):
    """Return the index behind the longest run that begins at this index."""
    slope = slope_at(decisions, at)
    after = at + 1
    while after < len(decisions) and decisions[after] == next_decision(decisions[after - 1], slope):
        after += 1
    return after


def slope_at(decisions, at):
    """Return by how much the amount grows to the next one, or 0 where one of them is none."""
    amounts = [decision[1] for decision in decisions[at:at + 2] if decision[0] == "amount"]
    if len(amounts) < 2:
        return 0
    return amounts[1] - amounts[0]


def next_decision(decision, slope):
    """Return what comes behind this decision in a run of this slope."""
    if decision[0] != "amount":
        return decision
    return ("amount", decision[1] + slope)


def run_of(decisions, at, after, low):
    """Return the run of the decisions between these indexes, where the first value is low."""
    if decisions[at][0] != "amount":
        return (low + at, low + after, decisions[at])
    slope = slope_at(decisions, at)
    return (low + at, low + after, slope, decisions[at][1] - slope * (low + at))
