import random
import unittest

from duewrits.books import book_of
from duewrits.decisions import decide, judge
from second_way import random_entries, random_question

ALL = (0, 10000)


class Like:
    """Says of itself that it is the same as everything."""

    def __eq__(self, other):
        return True


ODD_THINGS = [None, 0, 1, True, 1.0, "", "amount", (), [], {}, set(), object(), Like(), b"amount", ["amount", 1],
              ("amount",), ("amount", 1, 1), (1, "amount"), [("rule", "base", 0)], (("rule", "base", 0),),
              iter([]), range(3)]


class JudgeCase(unittest.TestCase):
    def assertAccepted(self, book, question, decision, dossier):
        self.assertIs(judge(book, question, decision, dossier), True, (question, decision, dossier))

    def assertRefused(self, book, question, decision, dossier):
        self.assertIs(judge(book, question, decision, dossier), False, (question, decision, dossier))


class OneBookTest(JudgeCase):
    def setUp(self):
        # Base comes to 1 for ann, who has one report of her age, at index 1.
        self.book = book_of([
            ("enact", 0, "base", "plus fact age plus fact kids or 0 due more", ALL),
            ("report", 0, "ann", "age", 1, ALL),
            ("enact", 0, "more", "0", ALL),
            ("report", 9, "ann", "age", 2, ALL),
        ])
        self.question = ("ann", "base", 5, 5)
        self.decision = ("amount", 1)
        self.dossier = [("rule", "base", 0), ("fact", "age", 1), ("fact", "kids", None), ("rule", "more", 2)]

    def assertDossierRefused(self, dossier):
        self.assertRefused(self.book, self.question, self.decision, dossier)

    def assertDecisionRefused(self, decision):
        self.assertRefused(self.book, self.question, decision, self.dossier)

    def test_the_right_ones(self):
        self.assertAccepted(self.book, self.question, self.decision, self.dossier)
        self.assertEqual(decide(self.book, self.question), (self.decision, self.dossier))

    def test_another_decision(self):
        for decision in [("amount", 0), ("amount", 2), ("amount", -1), ("none", "base"), ("missing", "kids"),
                         ("large", "base"), ("circle", "base"), ("deep", "more"), ("long", "age")]:
            self.assertDecisionRefused(decision)

    def test_a_decision_of_another_form(self):
        for decision in ODD_THINGS:
            self.assertDecisionRefused(decision)
        for decision in [("amount", True), ("amount", 1.0), ("amount", "1"), ("amount", None), ("amount", (1,)),
                         ("amount", Like()), (Like(), 1), ["amount", 1], ("amount", 1, None), ("amount", 1, 1),
                         (("amount", 1),), (b"amount", 1), ("Amount", 1), ("amount ", 1), (None, 1)]:
            self.assertDecisionRefused(decision)

    def test_a_kind_that_differs(self):
        for at in range(4):
            kind, name, index = self.dossier[at]
            for other in ["rule" if kind == "fact" else "fact", "known", "due", "", "Rule", None, 0, Like()]:
                self.assertDossierRefused(self.dossier[:at] + [(other, name, index)] + self.dossier[at + 1:])

    def test_a_name_that_differs(self):
        for at in range(4):
            kind, name, index = self.dossier[at]
            for other in ["base", "more", "age", "kids", "", name + "x", name.upper(), None, 0, Like()]:
                if other != name or isinstance(other, Like):
                    self.assertDossierRefused(self.dossier[:at] + [(kind, other, index)] + self.dossier[at + 1:])

    def test_an_index_that_differs(self):
        for at in range(4):
            kind, name, index = self.dossier[at]
            for other in [0, 1, 2, 3, 4, -1, -4, None, "0", "", 1.0, 0.0, (0,), [1], Like(), False, True, 10 ** 20]:
                if type(other) is not type(index) or other != index:
                    self.assertDossierRefused(self.dossier[:at] + [(kind, name, other)] + self.dossier[at + 1:])

    def test_something_is_missing(self):
        self.assertDossierRefused([])
        for at in range(4):
            self.assertDossierRefused(self.dossier[:at])
            self.assertDossierRefused(self.dossier[:at] + self.dossier[at + 1:])

    def test_something_is_left_over(self):
        for entry in self.dossier + [("fact", "age", None), ("rule", "none", None), (), None, 0]:
            for at in range(5):
                longer = self.dossier[:at] + [entry] + self.dossier[at:]
                self.assertDossierRefused(longer)
        self.assertDossierRefused(self.dossier * 2)

    def test_another_order(self):
        for at in range(3):
            turned = self.dossier[:at] + [self.dossier[at + 1], self.dossier[at]] + self.dossier[at + 2:]
            self.assertDossierRefused(turned)
        self.assertDossierRefused(self.dossier[::-1])

    def test_a_dossier_of_another_form(self):
        for dossier in ODD_THINGS + [tuple(self.dossier), {at: entry for at, entry in enumerate(self.dossier)},
                                     [self.dossier], iter(self.dossier), [list(entry) for entry in self.dossier],
                                     dict.fromkeys(self.dossier), str(self.dossier)]:
            self.assertDossierRefused(dossier)

    def test_a_line_of_another_form(self):
        for at in range(4):
            kind, name, index = self.dossier[at]
            for line in [(), (kind,), (kind, name), (kind, name, index, None), (kind, name, (index,)),
                         [kind, name, index], (name, kind, index), ((kind, name), index), None, 0, "", kind + name,
                         {kind: name}, Like(),
                         ((kind, name, index),), [self.dossier[at]]]:
                self.assertDossierRefused(self.dossier[:at] + [line] + self.dossier[at + 1:])

    def test_both_of_another_form(self):
        for odd in ODD_THINGS:
            self.assertRefused(self.book, self.question, odd, odd)

    def test_another_question(self):
        for question in [("bob", "base", 5, 5), ("ann", "more", 5, 5), ("ann", "base", 5, 9), ("ann", "age", 5, 5)]:
            self.assertRefused(self.book, question, self.decision, self.dossier)
        self.assertAccepted(self.book, ("ann", "base", 9999, 8), self.decision, self.dossier)

    def test_it_is_the_index_that_counts_and_not_the_value(self):
        dossier = [("rule", "base", 0), ("fact", "age", 3), ("fact", "kids", None), ("rule", "more", 2)]
        self.assertAccepted(self.book, ("ann", "base", 5, 9), ("amount", 2), dossier)
        self.assertRefused(self.book, ("ann", "base", 5, 9), ("amount", 2), self.dossier)
        twice = book_of(self.book.entries()[:3] + [("report", 9, "ann", "age", 1, ALL)])
        self.assertAccepted(twice, ("ann", "base", 5, 9), ("amount", 1), dossier)
        self.assertRefused(twice, ("ann", "base", 5, 9), ("amount", 1), self.dossier)


class StopsTest(JudgeCase):
    def test_the_dossier_of_each_stop(self):
        texts = {
            "fact none": ("missing", "none"), "due none": ("none", "none"), "due base": ("circle", "base"),
            "plus 1 times 100000000 10000000": ("large", "base"), "plus fact age due base": ("circle", "base"),
        }
        for text, decision in texts.items():
            book = book_of([("enact", 0, "base", text, ALL), ("report", 0, "ann", "age", 1, ALL)])
            question = ("ann", "base", 5, 5)
            dossier = decide(book, question)[1]
            self.assertAccepted(book, question, decision, dossier)
            self.assertRefused(book, question, decision, dossier + [("rule", "base", 0)])
            self.assertRefused(book, question, decision, dossier[:-1])
            self.assertRefused(book, question, (decision[0], "more"), dossier)
            self.assertRefused(book, question, ("amount", 0), dossier)
            self.assertRefused(book, question, list(decision), dossier)

    def test_an_empty_book(self):
        question = ("ann", "base", 5, 5)
        self.assertAccepted(book_of([]), question, ("none", "base"), [("rule", "base", None)])
        for dossier in [[], [("rule", "base", 0)], [("fact", "base", None)], [("rule", "base", None)] * 2]:
            self.assertRefused(book_of([]), question, ("none", "base"), dossier)


class ManyBooksTest(JudgeCase):
    def test_exactly_what_is_decided_is_accepted(self):
        for seed in range(300):
            source = random.Random(seed)
            book = book_of(random_entries(source, 10))
            question, other = random_question(source), random_question(source)
            decision, dossier = decide(book, question)
            self.assertAccepted(book, question, decision, dossier)
            second = decide(book, other)
            same = second == (decision, dossier)
            self.assertIs(judge(book, question, *second), same)
            self.assertIs(judge(book, question, second[0], dossier), second[0] == decision)
            self.assertIs(judge(book, question, decision, second[1]), second[1] == dossier)


class CopiesTest(JudgeCase):
    def test_nothing_is_modified(self):
        entries = [("enact", 0, "base", "fact age", ALL), ("report", 0, "ann", "age", 1, ALL)]
        book, dossier = book_of(entries), [("rule", "base", 0), ("fact", "age", 1)]
        for decision in [("amount", 1), ("amount", 2)]:
            judge(book, ("ann", "base", 5, 5), decision, dossier)
            self.assertEqual(dossier, [("rule", "base", 0), ("fact", "age", 1)])
            self.assertEqual(book.entries(), entries)


if __name__ == "__main__":
    unittest.main()
