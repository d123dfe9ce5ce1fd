"""Decisions: what a rule gives a person on a day, and what was looked up for it."""

from duewrits.books import amount_of, fact_at, rule_at, value_of
from duewrits.errors import WritError

MOST_RULES = 6
MOST_LOOKED_UP = 100
LARGEST_AMOUNT = 10 ** 15


class Stop(WritError):
    """What stops a reading; `decide` catches it, so that no caller meets it."""

    def __init__(self, word, name):
        WritError.__init__(self, f"the reading stops: {word} {name}")
        self.decision = (word, name)


class Reading:
    """One reading for a person and a day, as known on a day."""

    def __init__(self, book, person, day, known):
        self._book = book
        self._person = person
        self._day = day
        self._known = known
        # The rules whose texts are being read, the one that was asked for last behind.
        self._rules = []
        self.dossier = []

    def rule_amount(self, name):
        """Read the text of a rule."""
        if name in self._rules:
            raise Stop("circle", name)
        if len(self._rules) == MOST_RULES:
            raise Stop("deep", name)
        index = self._look_up("rule", name)
        if index is None:
            raise Stop("none", name)
        self._rules.append(name)
        amount = self._amount(amount_of(self._book, index))
        self._rules.pop()
        return amount

    def _look_up(self, kind, name):
        if len(self.dossier) == MOST_LOOKED_UP:
            raise Stop("long", name)
        if kind == "rule":
            index = rule_at(self._book, name, self._day, self._known)
        else:
            index = fact_at(self._book, self._person, name, self._day, self._known)
        self.dossier.append((kind, name, index))
        return index

    def _amount(self, tree):
        word = tree[0]
        if word == "number":
            return tree[1]
        if word == "fact":
            return self._fact_amount(tree[1], tree[2])
        if word == "due":
            return self.rule_amount(tree[1])
        if word == "if":
            return self._amount(tree[2] if self._holds(tree[1]) else tree[3])
        if word == "percent":
            return self._within_limits(tree[1] * self._amount(tree[2]) // 100)
        left = self._amount(tree[1])
        right = self._amount(tree[2])
        return self._within_limits(joined(word, left, right))

    def _fact_amount(self, name, other):
        index = self._look_up("fact", name)
        if index is not None:
            return value_of(self._book, index)
        if other is None:
            raise Stop("missing", name)
        return self._amount(other)

    def _holds(self, tree):
        word = tree[0]
        if word == "known":
            return self._look_up("fact", tree[1]) is not None
        if word == "not":
            return not self._holds(tree[1])
        if word == "both":
            return self._holds(tree[1]) and self._holds(tree[2])
        if word == "either":
            return self._holds(tree[1]) or self._holds(tree[2])
        left = self._amount(tree[1])
        right = self._amount(tree[2])
        if word == "below":
            return left < right
        return left == right

    def _within_limits(self, amount):
        if not -LARGEST_AMOUNT <= amount <= LARGEST_AMOUNT:
            raise Stop("large", self._rules[-1])
        return amount


def joined(word, left, right):
    """Return what this word makes of two amounts."""
    if word == "plus":
        return left + right
    if word == "minus":
        return left - right
    if word == "times":
        return left * right
    if word == "least":
        return min(left, right)
    return max(left, right)


def decide(book, question):
    """Return the decision of a question, and the dossier of all that was looked up."""
    person, rule, day, known = question
    reading = Reading(book, person, day, known)
    try:
        decision = ("amount", reading.rule_amount(rule))
    except Stop as stop:
        decision = stop.decision
    return decision, reading.dossier


def judge(book, question, decision, dossier):
    """Return whether the dossier is accepted for the question and the decision."""
    # A question has one decision with an accepted dossier, and one such dossier:
    # those that its reading gives.
    right_decision, right_dossier = decide(book, question)
    return is_same(decision, right_decision) and is_same(dossier, right_dossier)


def is_same(told, right):
    """Return whether what is told is the right thing, in its form, too."""
    if isinstance(right, tuple):
        return isinstance(told, tuple) and are_same(told, right)
    if isinstance(right, list):
        return isinstance(told, list) and are_same(told, right)
    if isinstance(right, str):
        return isinstance(told, str) and told == right
    if right is None:
        return told is None
    # To Python True is 1; to the document it is no integer.
    return isinstance(told, int) and not isinstance(told, bool) and told == right


def are_same(told, right):
    """Return whether these are as many, and each told part is the right one."""
    if len(told) != len(right):
        return False
    return all([is_same(part, right_part) for part, right_part in zip(told, right)])
