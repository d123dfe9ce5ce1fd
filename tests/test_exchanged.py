import random
import unittest

from duewrits.books import book_of
from duewrits.decisions import decide
from duewrits.desk import exchanged
from duewrits.errors import NotAllowed
from second_way import DAYS, PERSONS, RULES, random_entries
from test_desk import enact, report, strike


class ExchangedTest(unittest.TestCase):
    def assertRefused(self, entries, at):
        before = list(entries)
        with self.assertRaises(NotAllowed):
            exchanged(entries, at)
        self.assertEqual(entries, before)

    def test_two_that_may_be_exchanged(self):
        pairs = [(report(1), enact("1")), (report(1), report(1, person="bob")), (report(1), report(1, fact="kids")),
                 (report(1), report(2, person="bob", fact="kids")), (enact("1"), enact("1", rule="more"))]
        for first, second in pairs:
            self.assertEqual(exchanged([first, second], 0), [second, first])
            self.assertEqual(exchanged([second, first], 0), [first, second])

    def test_a_person_a_fact_and_a_rule_of_one_name(self):
        entries = [report(1, person="base", fact="base"), enact("1", rule="base")]
        self.assertEqual(exchanged(entries, 0), [entries[1], entries[0]])
        entries = [report(1, person="ann", fact="bob"), report(1, person="bob", fact="ann")]
        self.assertEqual(exchanged(entries, 0), [entries[1], entries[0]])

    def test_each_place(self):
        entries = [report(1), enact("1"), report(2, person="bob"), enact("2", rule="more"), report(3)]
        for at in range(4):
            right = entries[:at] + [entries[at + 1], entries[at]] + entries[at + 2:]
            self.assertEqual(exchanged(entries, at), right)

    def test_below_zero_and_behind_the_last_one(self):
        entries = [report(1), enact("1"), report(2, person="bob")]
        self.assertEqual(len(exchanged(entries, 1)), 3)
        for at in [-1, -2, -3, -4, -10 ** 20, 2, 3, 4, 10 ** 20]:
            self.assertRefused(entries, at)
        for at in [-2, -1, 0, 1]:
            self.assertRefused([], at)
            self.assertRefused([report(1)], at)

    def test_different_days(self):
        self.assertRefused([report(1, 3), enact("1", 4)], 0)
        self.assertRefused([report(1, 3), report(1, 9, "bob")], 0)
        self.assertEqual(exchanged([report(1, 4), enact("1", 4)], 0), [enact("1", 4), report(1, 4)])

    def test_of_the_same_person_and_fact(self):
        self.assertRefused([report(1), report(2)], 0)
        self.assertRefused([report(1), report(1)], 0)
        # Also where their spans do not meet.
        self.assertRefused([report(1, span=(0, 5)), report(2, span=(5, 9))], 0)

    def test_of_the_same_rule(self):
        self.assertRefused([enact("1"), enact("2")], 0)
        self.assertRefused([enact("1", span=(0, 5)), enact("1", span=(5, 9))], 0)

    def test_strikes(self):
        entries = [report(1), enact("1"), strike(0, 0), enact("2", rule="more"), strike(0, 1), strike(0, 3)]
        for at in range(1, 5):
            self.assertRefused(entries, at)
        right = [enact("1"), report(1), strike(0, 1), enact("2", rule="more"), strike(0, 0), strike(0, 3)]
        self.assertEqual(exchanged(entries, 0), right)

    def test_what_strikes_them_is_turned(self):
        entries = [report(0), report(1), enact("1"), strike(3, 1), report(4, 3)]
        entries += [strike(9, index) for index in (0, 2, 4)]
        right = [report(0), enact("1"), report(1), strike(3, 2), report(4, 3)]
        right += [strike(9, index) for index in (0, 1, 4)]
        self.assertEqual(exchanged(entries, 1), right)
        self.assertEqual(exchanged(right, 1), entries)

    def test_what_is_returned_is_new(self):
        entries = [report(1), enact("1"), strike(3, 1)]
        before = list(entries)
        found = exchanged(entries, 0)
        self.assertIs(type(found), list)
        self.assertEqual([type(entry) for entry in found], [tuple] * 3)
        found.clear()
        self.assertEqual(entries, before)
        self.assertEqual(exchanged(entries, 0), [enact("1"), report(1), strike(3, 0)])

    def test_every_question_is_decided_alike(self):
        asked = 0
        for seed in range(120):
            entries = random_entries(random.Random(seed), 12)
            for at in range(len(entries) - 1):
                if may_be_exchanged(entries[at], entries[at + 1]):
                    asked += 1
                    self.check(entries, at)
                else:
                    self.assertRefused(entries, at)
        self.assertGreater(asked, 200)

    def check(self, entries, at):
        found = exchanged(entries, at)
        first, second = book_of(entries), book_of(found)
        places = {at: at + 1, at + 1: at}
        source = random.Random(at)
        for _ in range(25):
            question = (source.choice(PERSONS), source.choice(RULES), source.randrange(DAYS), source.randrange(DAYS))
            decision, dossier = decide(first, question)
            turned = [(kind, name, places.get(index, index)) for kind, name, index in dossier]
            self.assertEqual(decide(second, question), (decision, turned))


def may_be_exchanged(first, second):
    if first[1] != second[1] or "strike" in (first[0], second[0]):
        return False
    same = {"report": first[2:4] == second[2:4], "enact": first[2] == second[2]}
    return first[0] != second[0] or not same[first[0]]


if __name__ == "__main__":
    unittest.main()
