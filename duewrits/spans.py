"""Spans: what comes of a claim over all days of its span."""

from duewrits.books import stands
from duewrits.decisions import decide


def course(book, claim, known):
    """Return the longest runs of days with the same decision, in order."""
    person, rule, span = claim
    runs = []
    for first, after in stretches(book, span, known):
        decision = decide(book, (person, rule, first, known))[0]
        if runs and runs[-1][2] == decision:
            runs[-1] = (runs[-1][0], after, decision)
        else:
            runs.append((first, after, decision))
    return runs


def total(book, claim, known):
    """Return the sum of the amounts of all days, or where it stops."""
    amount = 0
    for first, after, decision in course(book, claim, known):
        if decision[0] != "amount":
            return ("stopped", first, decision)
        amount += (after - first) * decision[1]
    return ("total", amount)


def stretches(book, span, known):
    """Return the parts of a span, each ending where the span of an entry begins or ends."""
    # Within such a part no entry begins or ends to hold, so one day tells for all.
    first, after = span
    edges = [first, after]
    for index, entry in enumerate(book.entries()):
        if stands(book, index, known):
            edges.extend([day for day in entry[-1] if first < day < after])
    edges = sorted(set(edges))
    return list(zip(edges, edges[1:]))
