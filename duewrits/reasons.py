"""Reasons: the entries that speak for a question, and those that carry its decision."""

from itertools import combinations

from duewrits.books import book_of, holds
from duewrits.decisions import decide
from duewrits.errors import NotAllowed

MOST_SPEAKERS = 8


def speakers(book, question):
    """Return the indexes of the entries that speak for a question."""
    person, _, day, known = question
    found = []
    for index, entry in enumerate(book.entries()):
        if concerns(entry, person) and holds(book, index, day, known):
            found.append(index)
    return found


def concerns(entry, person):
    """Return whether this is an enactment, or a report of this person."""
    if entry[0] == "report":
        return entry[2] == person
    return entry[0] == "enact"


def carries(book, question, chosen):
    """Return whether the chosen ones of the speakers carry the decision."""
    return failing_sets(book, question, chosen) == []


def reasons(book, question):
    """Return the least sets of speakers that carry the decision."""
    failing = failing_sets(book, question, [])
    return [chosen for chosen in subsets(speakers(book, question)) if is_least(chosen, failing)]


def failing_sets(book, question, chosen):
    """Return the sets of speakers, with all the chosen ones, that alone bring another decision."""
    heard = speakers(book, question)
    if len(heard) > MOST_SPEAKERS:
        raise NotAllowed("more than 8 entries speak for the question")
    decision = decide(book, question)[0]
    others = [index for index in heard if index not in chosen]
    failing = []
    for added in subsets(others):
        kept = sorted(chosen + added)
        if decision_of(book, question, kept) != decision:
            failing.append(kept)
    return failing


def decision_of(book, question, kept):
    """Return the decision if these alone of the speakers stood."""
    entries = book.entries()
    return decide(book_of([entries[index] for index in kept]), question)[0]


def is_least(chosen, failing):
    """Return whether a set carries the decision and no proper subset of it does."""
    if not is_carrying(chosen, failing):
        return False
    # What has all of a carrying set carries, too: so if a proper subset carries,
    # one does that lacks a single member.
    for left_out in chosen:
        if is_carrying([index for index in chosen if index != left_out], failing):
            return False
    return True


def is_carrying(chosen, failing):
    """Return whether none of the failing sets has all the chosen ones."""
    return not any([has_all(kept, chosen) for kept in failing])


def has_all(indexes, wanted):
    """Return whether all that is wanted is among these indexes."""
    return all([index in indexes for index in wanted])


def subsets(indexes):
    """Return the subsets, ordered by length and then by the first number that differs."""
    found = []
    for many in range(len(indexes) + 1):
        for chosen in combinations(indexes, many):
            found.append(list(chosen))
    return found
