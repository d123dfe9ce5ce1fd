import unittest

from duewrits.desk import Desk, replay
from duewrits.errors import BadText, NotAllowed, UnknownName

ALL = (0, 10000)
WEEK = (0, 7)


def enact(text, came=0, rule="base", span=ALL):
    return ("enact", came, rule, text, span)


def report(value, came=0, person="ann", fact="age", span=ALL):
    return ("report", came, person, fact, value, span)


def strike(came, index):
    return ("strike", came, index)


def enter(entry):
    return ("enter", entry)


def stand(name, person="ann", rule="base", span=WEEK):
    return ("stand", name, (person, rule, span))


def drop(name):
    return ("drop", name)


def settle(name, known):
    return ("settle", name, known)


def state(desk):
    """All that a desk answers, but for what it would answer of other entries."""
    totals = [desk.totals(known) for known in (0, 3, 5, 9999)]
    return desk.entries(), desk.payments(), desk.journal(), totals


# The total of ann's week is 7 from day 0 on, 14 from day 3 on, and stopped from day 5 on.
DEEDS = [
    enter(enact("fact age")), stand("one"), enter(report(1)), settle("one", 0), enter(report(2, 3)),
    settle("one", 3), stand("two", "bob"), settle("two", 4), enter(enact("fact kids", 5, span=(6, 7))), drop("two"),
]
TOTAL_7, TOTAL_14 = ("total", 7), ("total", 14)
STOPPED_6 = ("stopped", 6, ("missing", "kids"))


class DeskCase(unittest.TestCase):
    def assertRefused(self, desk, deed, error=NotAllowed):
        before = state(desk)
        with self.assertRaises(error) as caught:
            desk.do(deed)
        self.assertIs(type(caught.exception), error)
        self.assertEqual(state(desk), before)

    def names(self, desk):
        return [name for name, _ in desk.totals(0)]


class DeedsTest(DeskCase):
    def test_a_new_desk(self):
        desk = Desk()
        self.assertEqual(state(desk), ([], [], [], [[]] * 4))

    def test_each_kind_of_deed(self):
        desk = Desk()
        self.assertEqual([desk.do(deed) for deed in DEEDS], [None] * len(DEEDS))
        self.assertEqual(desk.journal(), DEEDS)
        self.assertEqual(desk.entries(), [deed[1] for deed in DEEDS if deed[0] == "enter"])
        claim = ("ann", "base", WEEK)
        self.assertEqual(desk.payments(), [(claim, 0, 7), (claim, 3, 7)])
        self.assertEqual(desk.totals(4), [("one", TOTAL_14)])

    def test_totals_as_known_on_each_day(self):
        desk = replay(DEEDS + [stand("two", "bob"), stand("three", span=(0, 6))])
        missing = ("stopped", 0, ("missing", "age"))
        self.assertEqual(desk.totals(0), [("one", TOTAL_7), ("two", missing), ("three", ("total", 6))])
        self.assertEqual(desk.totals(2), desk.totals(0))
        self.assertEqual(desk.totals(3), [("one", TOTAL_14), ("two", missing), ("three", ("total", 12))])
        self.assertEqual(desk.totals(5), [("one", STOPPED_6), ("two", missing), ("three", ("total", 12))])
        self.assertEqual(desk.totals(9999), desk.totals(5))

    def test_desks_share_nothing(self):
        first, second = replay(DEEDS), Desk()
        second.do(stand("one", "eve"))
        self.assertEqual(first.totals(0), [("one", TOTAL_7)])
        self.assertEqual(second.entries() + second.payments(), [])
        self.assertEqual(second.journal(), [stand("one", "eve")])


class EnterTest(DeskCase):
    def test_strikes(self):
        desk = replay(DEEDS)
        desk.do(enter(strike(5, 3)))
        self.assertEqual(desk.totals(5), [("one", TOTAL_14)])
        self.assertEqual(desk.totals(4), [("one", TOTAL_14)])
        self.assertRefused(desk, enter(strike(5, 3)))
        self.assertRefused(desk, enter(strike(5, 4)))
        self.assertRefused(desk, enter(strike(5, 5)))
        self.assertRefused(desk, enter(strike(5, -1)))

    def test_wrong_entries(self):
        for entry in [report(1, 4), report(1, -1), report(1, 10000), report(10 ** 9, 5), report(1, 5, "or"),
                      report(1, 5, fact="2"), report(1, 5, span=(3, 3)), enact("1", 4), enact("1", 5, "due"),
                      enact("1", 5, span=(0, 10001)), enact(" ".join(["plus"] * 41), 5)]:
            self.assertRefused(replay(DEEDS), enter(entry))
        self.assertRefused(replay(DEEDS), enter(enact("plus 1", 5)), BadText)
        with self.assertRaises(BadText) as caught:
            replay(DEEDS).do(enter(enact("plus 1 2 3", 5)))
        self.assertEqual(caught.exception.at, 3)

    def test_the_order_of_the_errors(self):
        self.assertRefused(replay(DEEDS), enter(enact("plus", 4)), NotAllowed)
        self.assertRefused(replay(DEEDS), enter(enact("plus", 5, "or")), NotAllowed)
        self.assertRefused(replay(DEEDS), enter(enact("plus", 5, span=(3, 3))), BadText)

    def test_the_hundredth_entry_and_the_one_behind_it(self):
        desk = replay([enter(report(at)) for at in range(99)])
        self.assertRefused(desk, enter(enact("plus")), BadText)
        desk.do(enter(report(99)))
        self.assertEqual(desk.entries(), [report(at) for at in range(100)])
        for entry in [report(1), enact("1"), strike(0, 0), enact("plus")]:
            self.assertRefused(desk, enter(entry), NotAllowed)
        desk.do(stand("one"))
        self.assertEqual(len(desk.journal()), 101)


class StandTest(DeskCase):
    def test_claims_stand_in_the_order_in_which_they_came(self):
        desk = replay([stand(name) for name in ["d", "b", "f", "a", "e", "c"]])
        self.assertEqual(self.names(desk), ["d", "b", "f", "a", "e", "c"])

    def test_the_seventh_name(self):
        desk = replay([stand(name) for name in ["d", "b", "f", "a", "e"]])
        desk.do(stand("c"))
        self.assertRefused(desk, stand("g"))
        desk.do(stand("f", "bob"))
        self.assertEqual(self.names(desk), ["d", "b", "f", "a", "e", "c"])
        desk.do(drop("b"))
        desk.do(stand("g"))
        self.assertEqual(self.names(desk), ["d", "f", "a", "e", "c", "g"])
        self.assertRefused(desk, stand("b"))

    def test_a_claim_in_the_place_of_another(self):
        desk = replay([enter(enact("1")), stand("a"), stand("b"), stand("c"), stand("b", span=(0, 3))])
        self.assertEqual(desk.totals(0), [("a", TOTAL_7), ("b", ("total", 3)), ("c", TOTAL_7)])
        desk.do(stand("a", rule="none"))
        stopped = ("stopped", 0, ("none", "none"))
        self.assertEqual(desk.totals(0), [("a", stopped), ("b", ("total", 3)), ("c", TOTAL_7)])
        self.assertEqual(len(desk.journal()), 6)

    def test_a_name_that_was_dropped_stands_last(self):
        desk = replay([stand("a"), stand("b"), stand("c"), drop("a"), stand("a")])
        self.assertEqual(self.names(desk), ["b", "c", "a"])

    def test_the_same_claim_under_two_names(self):
        desk = replay([enter(enact("1")), stand("a"), stand("b"), settle("a", 0), settle("b", 0)])
        self.assertEqual(desk.totals(0), [("a", TOTAL_7), ("b", TOTAL_7)])
        # What was paid was paid on the claim.
        self.assertEqual(desk.payments(), [(("ann", "base", WEEK), 0, 7)])

    def test_names_that_are_none(self):
        desk = replay([stand("a")])
        for word in ["", "or", "A", "2a", "a b", "abcdefghijklm", "a_b"]:
            self.assertRefused(desk, stand(word))
            self.assertRefused(desk, stand("b", person=word))
            self.assertRefused(desk, stand("b", rule=word))
            self.assertRefused(desk, stand("a", rule=word))
        desk.do(stand("abcdefghijkl", "a1", "z9"))

    def test_spans_that_are_not_valid(self):
        desk = replay([stand("a")])
        for span in [(0, 0), (5, 4), (-1, 4), (0, 10001), (10000, 10001), (9999, 9999)]:
            self.assertRefused(desk, stand("b", span=span))
            self.assertRefused(desk, stand("a", span=span))
        for span in [(0, 1), (9999, 10000), (0, 10000)]:
            desk.do(stand("b", span=span))


class DropTest(DeskCase):
    def test_a_name_under_which_no_claim_stands(self):
        desk = replay([stand("a"), stand("b"), drop("b")])
        for name in ["b", "c", "ann", "base", "or", ""]:
            self.assertRefused(desk, drop(name), UnknownName)
        desk.do(drop("a"))
        self.assertRefused(desk, drop("a"), UnknownName)
        self.assertRefused(Desk(), drop("a"), UnknownName)

    def test_what_was_paid_stays(self):
        desk = replay([enter(enact("1")), stand("a"), settle("a", 0), drop("a"), stand("b"), settle("b", 0)])
        self.assertEqual(desk.payments(), [(("ann", "base", WEEK), 0, 7)])


class SettleTest(DeskCase):
    def test_a_settling_that_pays_nothing_is_a_deed(self):
        desk = replay([enter(enact("1")), stand("a"), settle("a", 0), settle("a", 0), settle("a", 4), settle("a", 2)])
        self.assertEqual(len(desk.journal()), 6)
        self.assertEqual(desk.payments(), [(("ann", "base", WEEK), 0, 7)])
        desk = replay([stand("a"), settle("a", 4)])
        self.assertEqual(desk.journal(), [stand("a"), settle("a", 4)])
        self.assertEqual(desk.payments(), [])

    def test_a_settling_that_takes_back(self):
        desk = replay([enter(enact("5")), stand("a"), settle("a", 0), enter(enact("2", 3)), settle("a", 3)])
        claim = ("ann", "base", WEEK)
        self.assertEqual(desk.payments(), [(claim, 0, 35), (claim, 3, -21)])

    def test_a_claim_that_took_the_place_of_another(self):
        desk = replay([enter(enact("5")), stand("a"), settle("a", 0), stand("a", span=(0, 3)), settle("a", 0)])
        self.assertEqual(desk.payments(), [(("ann", "base", WEEK), 0, 35), (("ann", "base", (0, 3)), 0, 15)])

    def test_before_the_last_payment(self):
        desk = replay([enter(enact("5")), stand("a"), stand("b", "bob"), settle("a", 3)])
        self.assertRefused(desk, settle("a", 2))
        self.assertRefused(desk, settle("b", 2))
        desk.do(settle("b", 3))
        self.assertEqual(len(desk.payments()), 2)

    def test_a_name_under_which_no_claim_stands(self):
        desk = replay([enter(enact("5")), stand("a"), settle("a", 3)])
        for known in [0, 3, 9]:
            self.assertRefused(desk, settle("b", known), UnknownName)
            self.assertRefused(desk, settle("ann", known), UnknownName)

    def test_of_days_behind_the_last_entry(self):
        desk = replay([enter(enact("5")), stand("a"), settle("a", 9999), enter(enact("6", 3))])
        self.assertRefused(desk, settle("a", 3))
        desk.do(settle("a", 9999))
        self.assertEqual([payment[2] for payment in desk.payments()], [35, 7])


class ManyDeedsTest(DeskCase):
    def full(self):
        """A desk that took 150 deeds: a claim stands, a payment came on day 3."""
        deeds = [enter(enact("fact age or 1")), stand("a"), settle("a", 3)]
        return replay(deeds + [enter(report(1))] * 50 + [drop("a"), stand("a")] * 48 + [settle("a", 3)])

    def test_the_hundred_and_fiftieth_deed(self):
        desk = replay(self.full().journal()[:149])
        self.assertEqual(len(desk.journal()), 149)
        for deed in [enter(report(7)), stand("b"), drop("a"), settle("a", 4)]:
            desk = replay(self.full().journal()[:149])
            desk.do(deed)
            self.assertEqual(desk.journal()[149:], [deed])

    def test_the_one_behind_it(self):
        desk = self.full()
        self.assertEqual(len(desk.journal()), 150)
        for deed in [enter(report(7)), enter(enact("2")), enter(strike(0, 0)), stand("b"), stand("a", "bob"),
                     drop("a"), settle("a", 3), settle("a", 9), settle("a", 2)]:
            self.assertRefused(desk, deed, NotAllowed)

    def test_the_other_errors_come_first(self):
        desk = self.full()
        self.assertRefused(desk, enter(enact("plus 1")), BadText)
        self.assertRefused(desk, enter(enact("plus 1", rule="or")), NotAllowed)
        self.assertRefused(desk, drop("b"), UnknownName)
        self.assertRefused(desk, settle("b", 0), UnknownName)
        self.assertRefused(desk, settle("b", 9), UnknownName)
        self.assertRefused(desk, stand("or"), NotAllowed)

    def test_what_is_refused_is_no_deed(self):
        desk = replay(self.full().journal()[:149])
        for _ in range(3):
            self.assertRefused(desk, enter(enact("plus 1")), BadText)
            self.assertRefused(desk, drop("b"), UnknownName)
            self.assertRefused(desk, settle("a", 2))
        desk.do(settle("a", 3))
        self.assertRefused(desk, settle("a", 3))


class ReplayTest(DeskCase):
    def test_a_journal(self):
        desk = replay(DEEDS)
        again = replay(desk.journal())
        self.assertIs(type(again), Desk)
        self.assertIsNot(again, desk)
        self.assertEqual(state(again), state(desk))
        entry = enact("9", 7)
        self.assertEqual(again.changes(entry), desk.changes(entry))
        again.do(enter(entry))
        self.assertNotEqual(state(again), state(desk))
        self.assertEqual(len(desk.journal()), len(DEEDS))

    def test_no_deeds(self):
        self.assertEqual(state(replay([])), state(Desk()))

    def test_every_beginning(self):
        for many in range(len(DEEDS) + 1):
            self.assertEqual(replay(DEEDS[:many]).journal(), DEEDS[:many])

    def test_it_raises_what_the_first_refused_deed_raises(self):
        wrong = [(drop("x"), UnknownName), (enter(enact("plus", 9)), BadText), (settle("one", 0), NotAllowed)]
        for deed, error in wrong:
            for other, _ in wrong:
                journal = DEEDS + [deed, stand("b"), other]
                with self.assertRaises(error) as caught:
                    replay(journal)
                self.assertIs(type(caught.exception), error)
                self.assertEqual(journal, DEEDS + [deed, stand("b"), other])

    def test_too_many_deeds(self):
        replay([stand("a")] * 150)
        with self.assertRaises(NotAllowed):
            replay([stand("a")] * 151)


class CopiesTest(DeskCase):
    def test_what_is_returned_is_new(self):
        desk = replay(DEEDS)
        right = state(desk)
        for ask in [desk.entries, desk.payments, desk.journal, lambda: desk.totals(0)]:
            found = ask()
            self.assertIs(type(found), list)
            self.assertIsNot(ask(), found)
            found.pop()
            found.append(("drop", "one"))
            self.assertEqual(state(desk), right)
        found = desk.changes(enact("9", 7))
        self.assertIs(type(found), list)
        found.clear()
        self.assertEqual(len(desk.changes(enact("9", 7))), 1)
        desk.do(settle("one", 9))
        self.assertEqual(desk.entries(), right[0])

    def test_what_is_passed_is_as_it_was(self):
        journal = list(DEEDS)
        desk = replay(journal)
        self.assertEqual(journal, DEEDS)
        journal.pop()
        desk.do(drop("one"))
        self.assertEqual(desk.journal(), DEEDS + [drop("one")])
        self.assertEqual(len(journal), len(DEEDS) - 1)


if __name__ == "__main__":
    unittest.main()
