import random
import unittest

from duewrits.desk import Desk, replay
from duewrits.errors import BadText, NotAllowed, UnknownName
from second_way import DAYS, random_claim, random_entries, total_second
from test_desk import TOTAL_7, drop, enact, enter, report, settle, stand, state, strike

TOTAL_14 = ("total", 14)
MISSING_0 = ("stopped", 0, ("missing", "age"))
NONE_0 = ("stopped", 0, ("none", "base"))


class ChangesTest(unittest.TestCase):
    def assertChanges(self, desk, entry, found):
        before = state(desk)
        self.assertEqual(desk.changes(entry), found)
        self.assertEqual(state(desk), before)

    def test_no_claims(self):
        self.assertChanges(Desk(), enact("1"), [])
        self.assertChanges(replay([stand("a"), drop("a")]), enact("1"), [])

    def test_an_entry_told_ahead(self):
        desk = replay([enter(enact("fact age")), enter(report(1)), stand("a"), stand("b", "bob")])
        self.assertChanges(desk, report(2), [("a", TOTAL_7, TOTAL_14)])
        self.assertChanges(desk, report(2, 5), [("a", TOTAL_7, TOTAL_14)])
        self.assertChanges(desk, report(2, 5, span=(6, 9)), [("a", TOTAL_7, ("total", 8))])
        self.assertChanges(desk, enact("2", 5), [("a", TOTAL_7, TOTAL_14), ("b", MISSING_0, TOTAL_14)])

    def test_stops(self):
        desk = replay([enter(enact("fact age")), enter(report(1)), stand("a"), stand("b", "bob")])
        self.assertChanges(desk, report(2, 0, "bob"), [("b", MISSING_0, TOTAL_14)])
        # The first day without an amount is another one, and then another stop.
        self.assertChanges(desk, report(2, 0, "bob", span=(0, 3)), [("b", MISSING_0, ("stopped", 3, MISSING_0[2]))])
        none = ("stopped", 0, ("none", "more"))
        changed = [("a", TOTAL_7, none), ("b", MISSING_0, none)]
        self.assertChanges(desk, enact("due more"), changed)
        # The same stop on the same day is no change.
        self.assertChanges(desk, report(2, 0, "bob", span=(1, 3)), [])

    def test_entries_that_change_nothing(self):
        desk = replay([enter(enact("fact age")), enter(report(1)), stand("a")])
        for entry in [report(1), report(2, person="bob"), report(2, fact="kids"), report(2, span=(7, 9)),
                      enact("fact age"), enact("9", rule="more"), enact("9", span=(7, 9)), enact("fact age or 3")]:
            self.assertChanges(desk, entry, [])
        # The sum of the week is the same, whatever comes of its days.
        desk = replay([enter(enact("1")), enter(enact("2", span=(0, 1))), stand("a")])
        self.assertChanges(desk, enact("fact age or 0", span=(6, 7)), [("a", ("total", 8), TOTAL_7)])
        desk = replay([enter(enact("2", span=(0, 1))), enter(enact("0", span=(1, 2))), stand("a", span=(0, 2))])
        self.assertChanges(desk, enact("1", span=(0, 2)), [])

    def test_strikes(self):
        desk = replay([enter(enact("fact age")), enter(report(1)), enter(report(2, 3)), stand("a")])
        self.assertChanges(desk, strike(3, 2), [("a", TOTAL_14, TOTAL_7)])
        self.assertChanges(desk, strike(3, 1), [])
        self.assertChanges(desk, strike(9, 0), [("a", TOTAL_14, NONE_0)])
        desk.do(enter(strike(3, 2)))
        self.assertChanges(desk, strike(4, 1), [("a", TOTAL_7, MISSING_0)])

    def test_as_known_on_the_day_on_which_it_came(self):
        desk = replay([enter(enact("1", 0)), enter(enact("2", 3)), stand("a")])
        self.assertChanges(desk, enact("3", 3), [("a", TOTAL_14, ("total", 21))])
        self.assertChanges(desk, enact("3", 9999), [("a", TOTAL_14, ("total", 21))])

    def test_the_order_in_which_the_claims_stand(self):
        desk = replay([enter(enact("1"))] + [stand(name) for name in ["d", "b", "f", "a", "e", "c"]])
        names = ["d", "b", "f", "a", "e", "c"]
        self.assertChanges(desk, enact("2"), [(name, TOTAL_7, TOTAL_14) for name in names])
        for deed in [drop("d"), stand("d"), stand("b", rule="none"), stand("f", span=(0, 3))]:
            desk.do(deed)
        changed = [("f", ("total", 3), ("total", 6))]
        changed += [(name, TOTAL_7, TOTAL_14) for name in ["a", "e", "c", "d"]]
        self.assertChanges(desk, enact("2"), changed)

    def test_payments_play_no_part(self):
        desk = replay([enter(enact("1")), stand("a"), settle("a", 9)])
        self.assertChanges(desk, enact("2", 3), [("a", TOTAL_7, TOTAL_14)])

    def test_asking_takes_nothing(self):
        desk = replay([enter(enact("1", 2)), stand("a")])
        for _ in range(3):
            self.assertChanges(desk, enact("2", 9), [("a", TOTAL_7, TOTAL_14)])
            self.assertChanges(desk, strike(9, 0), [("a", TOTAL_7, NONE_0)])
        # Neither the day nor the strike nor the index was taken.
        desk.do(enter(enact("3", 2)))
        desk.do(enter(strike(2, 1)))
        self.assertChanges(desk, strike(2, 0), [("a", TOTAL_7, NONE_0)])
        self.assertEqual(desk.changes(enact("2", 2)), [("a", TOTAL_7, TOTAL_14)])
        desk.do(enter(enact("2", 2)))
        self.assertEqual(desk.totals(2), [("a", TOTAL_14)])

    def test_what_is_told_ahead_comes_true(self):
        desk = replay([enter(enact("fact age or 0")), stand("a"), stand("b", "bob")])
        for entry in [report(1), report(3, 2, "bob"), strike(3, 1), enact("1", 4), strike(4, 4)]:
            before = dict(desk.totals(entry[1]))
            changes = desk.changes(entry)
            desk.do(enter(entry))
            after = desk.totals(entry[1])
            right = [(name, before[name], told) for name, told in after if before[name] != told]
            self.assertEqual(changes, right)


class RefusedTest(unittest.TestCase):
    def assertRefused(self, desk, entry, error=NotAllowed):
        before = state(desk)
        with self.assertRaises(error) as caught:
            desk.changes(entry)
        self.assertIs(type(caught.exception), error)
        self.assertEqual(state(desk), before)

    def test_wrong_entries(self):
        desk = replay([enter(enact("1", 3)), stand("a")])
        for entry in [report(1, 2), report(1, -1), report(1, 10000), report(10 ** 9, 3), report(1, 3, "or"),
                      report(1, 3, fact=""), report(1, 3, span=(3, 3)), enact("1", 3, "or"), enact("1", 3, span=(5, 2)),
                      enact("plus", 2), strike(3, 1), strike(3, -1), strike(2, 0)]:
            self.assertRefused(desk, entry)
        for entry in [enact("plus", 3), enact("", 3), enact("1 1", 3, span=(5, 2))]:
            self.assertRefused(desk, entry, BadText)
        desk.do(enter(strike(4, 0)))
        self.assertRefused(desk, strike(4, 0))
        self.assertRefused(desk, strike(4, 1))

    def test_also_where_no_claim_stands(self):
        self.assertRefused(Desk(), enact("plus"), BadText)
        self.assertRefused(Desk(), report(10 ** 9))

    def test_a_full_book(self):
        desk = replay([enter(enact("1"))] * 99 + [stand("a")])
        self.assertEqual(desk.changes(enact("2")), [("a", TOTAL_7, TOTAL_14)])
        desk.do(enter(enact("1")))
        for entry in [enact("2"), report(1), strike(0, 0), enact("plus")]:
            self.assertRefused(desk, entry)

    def test_at_one_hundred_and_fifty_deeds(self):
        desk = replay([enter(enact("1", 2))] + [stand("a")] * 149)
        for _ in range(3):
            self.assertEqual(desk.changes(enact("2", 2)), [("a", TOTAL_7, TOTAL_14)])
            self.assertEqual(desk.changes(strike(9, 0)), [("a", TOTAL_7, NONE_0)])
        self.assertRefused(desk, enact("plus", 2), BadText)
        self.assertRefused(desk, enact("1", 1), NotAllowed)
        self.assertEqual(len(desk.journal()), 150)
        with self.assertRaises(NotAllowed):
            desk.do(enter(enact("2", 2)))


class ManyDesksTest(unittest.TestCase):
    def test_many_desks_in_a_second_way(self):
        seen = {"change": 0, "same": 0, "refused": 0, "paid": 0, "nothing": 0}
        for seed in range(80):
            source = random.Random(seed)
            self.work_at_random(source, random_entries(source, 12), seen)
        self.assertGreater(min(seen.values()), 30, seen)

    def work_at_random(self, source, entries, seen):
        desk = Desk()
        # The names and the claims, as a list of pairs; the payments; the deeds.
        taken, standing, payments, deeds = [], [], [], []
        names = ["a", "b", "c", "d", "e", "f", "g", "h"]
        while len(taken) < len(entries):
            word, name, known = source.choice("eeesssdpp"), source.choice(names), source.randrange(DAYS)
            claim = dict(standing).get(name)
            if word == "e":
                self.check_changes(desk, taken, standing, entries[len(taken)], seen)
                deed, error = enter(entries[len(taken)]), None
                taken.append(entries[len(taken)])
            elif word == "s":
                new = random_claim(source)
                deed, error = ("stand", name, new), NotAllowed if claim is None and len(standing) == 6 else None
                if error is None and claim is not None:
                    standing = [(other, new if other == name else told) for other, told in standing]
                elif error is None:
                    standing = standing + [(name, new)]
            elif word == "d":
                deed, error = drop(name), UnknownName if claim is None else None
                standing = [pair for pair in standing if pair[0] != name]
            else:
                deed, error = settle(name, known), UnknownName if claim is None else None
                if error is None and payments and known < payments[-1][1]:
                    error = NotAllowed
                if error is None:
                    self.pay(taken, claim, known, payments, seen)
            self.do(desk, deed, error, deeds, seen)
            totals = [(other, total_second(taken, told, known)) for other, told in standing]
            self.assertEqual(desk.totals(known), totals)
            self.assertEqual((desk.entries(), desk.payments(), desk.journal()), (taken, payments, deeds))
        self.assertEqual(state(replay(deeds)), state(desk))

    def do(self, desk, deed, error, deeds, seen):
        if error is None:
            desk.do(deed)
            deeds.append(deed)
            return
        seen["refused"] += 1
        with self.assertRaises(error):
            desk.do(deed)

    def pay(self, taken, claim, known, payments, seen):
        found = total_second(taken, claim, known)
        paid = sum([payment[2] for payment in payments if payment[0] == claim])
        if found[0] == "total" and found[1] != paid:
            payments.append((claim, known, found[1] - paid))
            seen["paid"] += 1
        else:
            seen["nothing"] += 1

    def check_changes(self, desk, taken, standing, entry, seen):
        right = []
        for name, claim in standing:
            before = total_second(taken, claim, entry[1])
            after = total_second(taken + [entry], claim, entry[1])
            seen["same" if before == after else "change"] += 1
            if before != after:
                right.append((name, before, after))
        self.assertEqual(desk.changes(entry), right)


if __name__ == "__main__":
    unittest.main()
