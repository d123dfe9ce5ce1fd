"""What point 2 says of the whole program, for everything that the interface lists."""

import copy
import inspect
import unittest

from duewrits import books, decisions, desk, errors, ledgers, offices, profiles, reasons, spans, texts

ALL = (0, 10000)
QUESTION = ("ann", "base", 5, 5)
CLAIM = ("ann", "base", (0, 7))
ENTRIES = [
    ("enact", 0, "base", "plus fact age or 1 due more", ALL),
    ("enact", 0, "more", "if known kids 3 fact debt or 7", (0, 8)),
    ("report", 2, "ann", "age", 40, (3, 9)),
    ("report", 4, "ann", "kids", 2, (5, 6)),
    ("strike", 6, 2),
]
LETTERS = [((3, "y", 0), ("report", 3, "ann", "age", 1, ALL)), ((4, "y", 1), ("strike", 4, (3, "y", 0)))]
DEEDS = [("enter", entry) for entry in ENTRIES[:4]] + [("stand", "one", CLAIM), ("settle", "one", 4)]

INTERFACE = {
    errors: ["WritError", "BadText", "NotAllowed", "UnknownName"],
    texts: ["parse_amount(text)", "format_amount(amount)"],
    books: ["Book()", "Book.enter(entry)", "Book.entries()", "stands(book, index, known)",
            "fact_at(book, person, fact, day, known)", "rule_at(book, rule, day, known)", "book_of(entries)"],
    decisions: ["decide(book, question)", "judge(book, question, decision, dossier)"],
    spans: ["course(book, claim, known)", "total(book, claim, known)"],
    reasons: ["speakers(book, question)", "carries(book, question, chosen)", "reasons(book, question)"],
    ledgers: ["Ledger()", "Ledger.settle(book, claim, known)", "Ledger.paid(claim)", "Ledger.payments()",
              "share(amount, weights)"],
    profiles: ["profile(book, question, fact, low, high)"],
    offices: ["Office(name)", "Office.write(entry)", "Office.take(letters)", "Office.letters()", "Office.book()",
              "Office.stamps()"],
    desk: ["Desk()", "Desk.do(deed)", "Desk.totals(known)", "Desk.changes(entry)", "Desk.entries()",
           "Desk.payments()", "Desk.journal()", "replay(journal)", "exchanged(entries, at)"],
}


def settled():
    ledger = ledgers.Ledger()
    ledger.settle(books.book_of(ENTRIES), CLAIM, 5)
    return ledger


def office_of(letters):
    office = offices.Office("x")
    office.take(letters)
    return office


# Each call with all that it is passed, the object of a method first.
CALLS = [
    (texts.parse_amount, ["plus 1 fact age or 2"]),
    (texts.format_amount, [("plus", ("number", 1), ("fact", "age", ("number", 2)))]),
    (books.Book.entries, [books.book_of(ENTRIES)]),
    (lambda entries: books.book_of(entries).entries(), [ENTRIES]),
    (books.stands, [books.book_of(ENTRIES), 2, 5]),
    (books.fact_at, [books.book_of(ENTRIES), "ann", "age", 5, 5]),
    (books.rule_at, [books.book_of(ENTRIES), "base", 5, 5]),
    (decisions.decide, [books.book_of(ENTRIES), QUESTION]),
    (decisions.judge, [books.book_of(ENTRIES), QUESTION, ("amount", 43),
                       [("rule", "base", 0), ("fact", "age", 2), ("rule", "more", 1), ("fact", "kids", 3)]]),
    (spans.course, [books.book_of(ENTRIES), CLAIM, 5]),
    (spans.total, [books.book_of(ENTRIES), CLAIM, 5]),
    (reasons.speakers, [books.book_of(ENTRIES), QUESTION]),
    (reasons.carries, [books.book_of(ENTRIES), QUESTION, [0, 1, 2]]),
    (reasons.reasons, [books.book_of(ENTRIES), QUESTION]),
    (ledgers.Ledger.payments, [settled()]),
    (ledgers.Ledger.paid, [settled(), CLAIM]),
    (ledgers.share, [100, [1, 0, 2]]),
    (profiles.profile, [books.book_of(ENTRIES), ("ann", "base", 4, 5), "debt", 0, 9]),
    (profiles.profile, [books.book_of(ENTRIES), ("ann", "base", 8, 5), "age", 0, 9]),
    (offices.Office.letters, [office_of(LETTERS)]),
    (offices.Office.stamps, [office_of(LETTERS)]),
    (lambda office: office.book().entries(), [office_of(LETTERS)]),
    (lambda letters: office_of(letters).letters(), [LETTERS]),
    (desk.Desk.totals, [desk.replay(DEEDS), 5]),
    (desk.Desk.changes, [desk.replay(DEEDS), ("strike", 6, 2)]),
    (desk.Desk.entries, [desk.replay(DEEDS)]),
    (desk.Desk.payments, [desk.replay(DEEDS)]),
    (desk.Desk.journal, [desk.replay(DEEDS)]),
    (lambda deeds: desk.replay(deeds).journal(), [DEEDS]),
    (desk.exchanged, [ENTRIES, 0]),
]


def lists_in(found):
    """All lists in this, at any depth."""
    lists = [found] if isinstance(found, list) else []
    if isinstance(found, (list, tuple)):
        for part in found:
            lists.extend(lists_in(part))
    return lists


def shown(passed):
    """What is passed, with what the objects in it hold at any depth."""
    if hasattr(passed, "__dict__"):
        return [type(passed).__name__, [(name, shown(held)) for name, held in vars(passed).items()]]
    if isinstance(passed, (list, tuple)):
        return type(passed)([shown(part) for part in passed])
    return copy.deepcopy(passed)


class InterfaceTest(unittest.TestCase):
    def test_all_that_is_listed(self):
        for module, listed in INTERFACE.items():
            for words in listed:
                name, _, rest = words.partition("(")
                self.check(module, name.split("."), rest.removesuffix(")"))

    def check(self, module, path, parameters):
        found = vars(module)[path[0]]
        self.assertEqual(found.__module__, module.__name__)
        if len(path) == 2:
            # In the class itself, and not in one above it.
            found = vars(found)[path[1]]
            parameters = ", ".join(["self", parameters]).removesuffix(", ")
        if not inspect.isclass(found):
            self.assertEqual(list(inspect.signature(found).parameters), parameters.split(", "))
        elif not issubclass(found, Exception):
            self.assertEqual(", ".join(inspect.signature(found).parameters), parameters)


class ListsTest(unittest.TestCase):
    def test_every_list_is_new(self):
        for call, passed in CALLS:
            first, second = call(*passed), call(*passed)
            held = [lists_in(passed), lists_in(first), lists_in(second)]
            ids = [id(one) for lists in held for one in lists]
            self.assertEqual(len(ids), len(set(ids)), call)
            self.assertEqual(first, second)

    def test_changing_them_changes_no_later_answer(self):
        for call, passed in CALLS:
            right = copy.deepcopy(call(*passed))
            found = call(*passed)
            for one in lists_in(found):
                one.reverse()
                one.append("more")
            self.assertEqual(call(*passed), right, call)

    def test_what_is_passed_is_not_modified(self):
        for call, passed in CALLS:
            before = shown(passed)
            call(*passed)
            self.assertEqual(shown(passed), before, call)


class RefusedTest(unittest.TestCase):
    def assertUnchanged(self, call, *passed):
        before = shown(passed)
        with self.assertRaises(errors.WritError):
            call(*passed)
        self.assertEqual(shown(passed), before)

    def test_what_is_refused_changes_nothing(self):
        book = books.book_of(ENTRIES)
        for entry in [("strike", 6, 2), ("enact", 6, "base", "plus", ALL), ("enact", 6, "base", "1", (3, 3)),
                      ("report", 5, "ann", "age", 1, ALL), ("report", 6, "ann", "or", 1, ALL)]:
            self.assertUnchanged(books.Book.enter, book, entry)
            self.assertUnchanged(desk.Desk.do, desk.replay(DEEDS + [("enter", ENTRIES[4])]), ("enter", entry))
            self.assertUnchanged(desk.Desk.changes, desk.replay(DEEDS + [("enter", ENTRIES[4])]), entry)
        self.assertUnchanged(ledgers.Ledger.settle, settled(), book, CLAIM, 4)
        self.assertUnchanged(profiles.profile, book, QUESTION, "age", 9, 0)
        self.assertUnchanged(ledgers.share, 5, [1, -1])
        self.assertUnchanged(offices.Office.write, office_of(LETTERS), ("strike", 9, (4, "y", 1)))
        self.assertUnchanged(offices.Office.write, office_of(LETTERS), ("enact", 9, "base", "plus", ALL))
        clash = [((0, "z", 0), LETTERS[0][1]), (LETTERS[0][0], ("report", 3, "ann", "age", 2, ALL))]
        self.assertUnchanged(offices.Office.take, office_of(LETTERS), clash)
        for deed in [("drop", "two"), ("settle", "two", 9), ("settle", "one", 0), ("stand", "or", CLAIM)]:
            self.assertUnchanged(desk.Desk.do, desk.replay(DEEDS), deed)
        self.assertUnchanged(desk.exchanged, ENTRIES, 1)

    def test_methods_for_which_no_result_is_told_return_none(self):
        self.assertIsNone(books.Book().enter(ENTRIES[0]))
        self.assertIsNone(offices.Office("x").take(LETTERS))
        self.assertIsNone(desk.Desk().do(DEEDS[0]))


if __name__ == "__main__":
    unittest.main()
