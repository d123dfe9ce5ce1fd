import random
import unittest
from fractions import Fraction
from itertools import product

from duewrits.books import book_of
from duewrits.errors import NotAllowed
from duewrits.ledgers import Ledger, share
from duewrits.spans import total
from second_way import DAYS, random_claim, random_entries, total_second

ALL = (0, 10000)
CLAIM = ("ann", "base", (0, 10))
OTHER = ("bob", "base", (0, 10))


def enact(text, came=0, span=ALL, rule="base"):
    return ("enact", came, rule, text, span)


def report(value, came=0, span=ALL, person="ann", fact="age"):
    return ("report", came, person, fact, value, span)


# Ann gets 50 as known on day 0, 60 on day 1, 20 on day 2, nothing on day 3, what
# is below 0 on day 4; on day 5 her claim is stopped, on day 6 it is 30.
LEARNED = book_of([
    enact("fact age"), report(5), report(6, 1), report(2, 2), report(0, 3), report(-4, 4),
    enact("fact kids", 5, (3, 4)), enact("3", 6),
])


class SettleTest(unittest.TestCase):
    def assertRefused(self, ledger, book, claim, known):
        before = ledger.payments()
        with self.assertRaises(NotAllowed):
            ledger.settle(book, claim, known)
        self.assertEqual(ledger.payments(), before)

    def test_a_new_ledger(self):
        self.assertEqual(Ledger().payments(), [])
        self.assertEqual(Ledger().paid(CLAIM), 0)

    def test_the_total_is_paid(self):
        ledger = Ledger()
        self.assertEqual(ledger.settle(LEARNED, CLAIM, 0), 50)
        self.assertEqual(ledger.paid(CLAIM), 50)
        self.assertEqual(ledger.payments(), [(CLAIM, 0, 50)])

    def test_what_is_learned_is_paid_or_taken_back(self):
        ledger = Ledger()
        self.assertEqual([ledger.settle(LEARNED, CLAIM, known) for known in range(5)], [50, 10, -40, -20, -40])
        self.assertEqual(ledger.paid(CLAIM), -40)
        amounts = [(0, 50), (1, 10), (2, -40), (3, -20), (4, -40)]
        self.assertEqual(ledger.payments(), [(CLAIM, known, amount) for known, amount in amounts])

    def test_a_first_payment_below_zero(self):
        ledger = Ledger()
        self.assertEqual(ledger.settle(LEARNED, CLAIM, 4), -40)
        self.assertEqual(ledger.payments(), [(CLAIM, 4, -40)])

    def test_settling_again_at_once_pays_nothing(self):
        for known in range(5):
            ledger = Ledger()
            ledger.settle(LEARNED, CLAIM, known)
            before = ledger.payments()
            self.assertEqual(ledger.settle(LEARNED, CLAIM, known), 0)
            self.assertEqual(ledger.payments(), before)
            self.assertEqual(ledger.paid(CLAIM), total(LEARNED, CLAIM, known)[1])

    def test_a_total_of_zero(self):
        ledger = Ledger()
        self.assertEqual(ledger.settle(LEARNED, CLAIM, 3), 0)
        self.assertEqual(ledger.payments(), [])
        self.assertEqual(ledger.paid(CLAIM), 0)

    def test_a_claim_that_is_stopped(self):
        ledger = Ledger()
        self.assertEqual(ledger.settle(LEARNED, CLAIM, 5), 0)
        self.assertEqual(ledger.payments(), [])
        ledger.settle(LEARNED, CLAIM, 5)
        self.assertEqual(ledger.paid(CLAIM), 0)

    def test_a_stop_leaves_what_was_paid(self):
        ledger = Ledger()
        ledger.settle(LEARNED, CLAIM, 2)
        self.assertEqual(ledger.settle(LEARNED, CLAIM, 5), 0)
        self.assertEqual(ledger.paid(CLAIM), 20)
        self.assertEqual(ledger.settle(LEARNED, CLAIM, 6), 10)
        self.assertEqual(ledger.payments(), [(CLAIM, 2, 20), (CLAIM, 6, 10)])

    def test_before_the_day_of_the_last_payment_and_on_it(self):
        ledger = Ledger()
        ledger.settle(LEARNED, CLAIM, 1)
        self.assertRefused(ledger, LEARNED, CLAIM, 0)
        self.assertEqual(ledger.settle(LEARNED, CLAIM, 1), 0)
        later = ("ann", "base", (10, 11))
        self.assertEqual(ledger.settle(LEARNED, later, 1), 6)
        ledger.settle(LEARNED, CLAIM, 4)
        for known in range(4):
            self.assertRefused(ledger, LEARNED, CLAIM, known)
        self.assertEqual(ledger.settle(LEARNED, later, 4), -10)

    def test_the_last_payment_is_that_on_whatever_claim(self):
        ledger = Ledger()
        ledger.settle(LEARNED, CLAIM, 2)
        self.assertRefused(ledger, LEARNED, ("ann", "base", (20, 21)), 1)
        # Also where nothing would be paid.
        self.assertRefused(ledger, LEARNED, OTHER, 1)
        self.assertRefused(ledger, LEARNED, ("ann", "none", (0, 10)), 0)

    def test_what_pays_nothing_does_not_move_the_day(self):
        ledger = Ledger()
        ledger.settle(LEARNED, CLAIM, 1)
        self.assertEqual(ledger.settle(LEARNED, OTHER, 5), 0)
        self.assertEqual(ledger.settle(LEARNED, ("ann", "base", (3, 4)), 3), 0)
        self.assertEqual(ledger.settle(LEARNED, CLAIM, 2), -40)
        self.assertEqual(ledger.payments(), [(CLAIM, 1, 60), (CLAIM, 2, -40)])

    def test_the_last_day(self):
        ledger = Ledger()
        self.assertEqual(ledger.settle(LEARNED, CLAIM, 9999), 30)
        self.assertRefused(ledger, LEARNED, CLAIM, 9998)

    def test_claims_are_apart(self):
        entries = [enact("5"), enact("7", rule="more"), report(1)]
        book, ledger = book_of(entries), Ledger()
        claims = [CLAIM, OTHER, ("ann", "more", (0, 10)), ("ann", "base", (0, 9)), ("ann", "base", (1, 10))]
        self.assertEqual([ledger.settle(book, claim, 0) for claim in claims], [50, 50, 70, 45, 45])
        self.assertEqual([ledger.paid(claim) for claim in claims], [50, 50, 70, 45, 45])
        self.assertEqual([payment[0] for payment in ledger.payments()], claims)
        self.assertEqual(ledger.paid(("eve", "base", (0, 10))), 0)

    def test_an_equal_claim_is_the_same_claim(self):
        ledger = Ledger()
        ledger.settle(LEARNED, CLAIM, 0)
        again = ("".join(["a", "nn"]), "".join(["ba", "se"]), tuple([0, 10]))
        self.assertEqual(ledger.paid(again), 50)
        self.assertEqual(ledger.settle(LEARNED, again, 0), 0)

    def test_another_book(self):
        ledger = Ledger()
        ledger.settle(LEARNED, CLAIM, 0)
        self.assertEqual(ledger.settle(book_of([enact("1")]), CLAIM, 0), -40)
        self.assertEqual(ledger.paid(CLAIM), 10)

    def test_ledgers_share_nothing(self):
        first, second = Ledger(), Ledger()
        first.settle(LEARNED, CLAIM, 3)
        first.settle(LEARNED, CLAIM, 4)
        self.assertEqual(second.payments(), [])
        self.assertEqual(second.settle(LEARNED, CLAIM, 0), 50)

    def test_amounts_know_no_limit(self):
        ledger = Ledger()
        large = enact("times 100000000 10000000")
        claim = ("ann", "base", ALL)
        self.assertEqual(ledger.settle(book_of([large, enact("0", 1)]), claim, 0), 10 ** 19)
        self.assertEqual(ledger.settle(book_of([large, enact("0", 1)]), claim, 1), -10 ** 19)

    def test_what_is_returned_is_new_and_nothing_is_modified(self):
        entries = LEARNED.entries()
        ledger = Ledger()
        ledger.settle(LEARNED, CLAIM, 0)
        found = ledger.payments()
        self.assertIs(type(found), list)
        self.assertIsNot(ledger.payments(), found)
        found.append((CLAIM, 9, 1))
        found[0] = (CLAIM, 9, 1)
        self.assertEqual(ledger.payments(), [(CLAIM, 0, 50)])
        self.assertEqual(ledger.settle(LEARNED, CLAIM, 1), 10)
        self.assertEqual(LEARNED.entries(), entries)

    def test_many_settlings_in_a_second_way(self):
        seen = {"paid": 0, "back": 0, "nothing": 0, "stopped": 0, "refused": 0}
        for seed in range(150):
            source = random.Random(seed)
            entries = random_entries(source, source.choice([3, 10, 20]))
            claims = [random_claim(source) for _ in range(3)]
            self.settle_at_random(source, entries, claims, seen)
        self.assertGreater(min(seen.values()), 20, seen)

    def settle_at_random(self, source, entries, claims, seen):
        book, ledger, payments = book_of(entries), Ledger(), []
        for _ in range(12):
            claim, known = source.choice(claims), source.randrange(DAYS)
            if payments and known < payments[-1][1]:
                self.assertRefused(ledger, book, claim, known)
                seen["refused"] += 1
                continue
            found = total_second(entries, claim, known)
            amount = 0
            if found[0] == "total":
                amount = found[1] - sum([payment[2] for payment in payments if payment[0] == claim])
            if amount != 0:
                payments.append((claim, known, amount))
            word = "paid" if amount > 0 else "back" if amount < 0 else "nothing" if found[0] == "total" else "stopped"
            seen[word] += 1
            self.assertEqual(ledger.settle(book, claim, known), amount)
            self.assertEqual(ledger.payments(), payments)
            if found[0] == "total":
                self.assertEqual(ledger.paid(claim), found[1])


class ShareTest(unittest.TestCase):
    def test_the_examples_of_the_interface(self):
        self.assertEqual(share(100, [1, 1, 1]), [34, 33, 33])
        self.assertEqual(share(-100, [1, 1, 1]), [-33, -33, -34])

    def test_what_comes_out_even(self):
        self.assertEqual(share(12, [1, 2, 3]), [2, 4, 6])
        self.assertEqual(share(-12, [1, 2, 3]), [-2, -4, -6])
        self.assertEqual(share(0, [1, 2, 3]), [0, 0, 0])
        self.assertEqual(share(7, [5]), [7])
        self.assertEqual(share(-7, [5]), [-7])

    def test_the_greatest_remainder_comes_first(self):
        self.assertEqual(share(10, [1, 2, 3, 5]), [1, 2, 3, 4])
        self.assertEqual(share(10, [5, 3, 2, 1]), [4, 3, 2, 1])
        self.assertEqual(share(1, [1, 2, 3]), [0, 0, 1])
        self.assertEqual(share(2, [1, 2, 3]), [0, 1, 1])
        self.assertEqual(share(-1, [1, 2, 3]), [0, 0, -1])
        self.assertEqual(share(-2, [1, 2, 3]), [0, -1, -1])

    def test_among_equal_remainders_the_first(self):
        self.assertEqual(share(2, [1, 1, 1]), [1, 1, 0])
        self.assertEqual(share(1, [2, 1, 2, 2]), [1, 0, 0, 0])
        self.assertEqual(share(-1, [1, 1, 1]), [0, 0, -1])
        self.assertEqual(share(-2, [1, 1, 1]), [0, -1, -1])
        self.assertEqual(share(3, [1] * 11), [1] * 3 + [0] * 8)

    def test_weights_of_zero(self):
        self.assertEqual(share(5, [0, 1, 0, 1, 0]), [0, 3, 0, 2, 0])
        self.assertEqual(share(-5, [0, 1, 0, 1, 0]), [0, -2, 0, -3, 0])
        self.assertEqual(share(5, [0, 3]), [0, 5])
        self.assertEqual(share(0, [0, 3]), [0, 0])

    def test_large_numbers(self):
        large = 10 ** 30
        self.assertEqual(share(large + 1, [large, large]), [large // 2 + 1, large // 2])
        self.assertEqual(share(1, [large, large + 1]), [0, 1])
        self.assertEqual(share(-large - 1, [1, 1]), [-(large // 2), -(large // 2) - 1])

    def test_weights_among_which_nothing_can_be_shared(self):
        none = [[], [0], [0, 0, 0], [-1], [1, -1], [-1, 1], [2, -1, 2], [0, -1], [-1, 0], [5, 0, -3]]
        for weights in none:
            before = list(weights)
            for amount in [100, 0, -100]:
                with self.assertRaises(NotAllowed):
                    share(amount, weights)
            self.assertEqual(weights, before)

    def test_the_weights_are_as_they_were_and_the_parts_are_new(self):
        weights = [3, 1, 2]
        parts = share(6, weights)
        self.assertIs(type(parts), list)
        parts.append(7)
        parts[0] = 9
        self.assertEqual(weights, [3, 1, 2])
        self.assertEqual(share(6, weights), [3, 1, 2])
        self.assertIsNot(share(6, weights), weights)

    def test_all_small_shares_in_a_second_way(self):
        for many in [1, 2, 3, 4]:
            for weights in product(range(4), repeat=many):
                if any(weights):
                    for amount in range(-9, 10):
                        self.check(amount, list(weights))

    def test_many_shares_in_a_second_way(self):
        source = random.Random(17)
        for _ in range(300):
            weights = [source.choice([0, 1, 2, 3, 7, source.randrange(1000)]) for _ in range(source.randrange(1, 12))]
            if any(weights):
                self.check(source.randrange(-5000, 5000), weights)

    def check(self, amount, weights):
        exact = [Fraction(amount * weight, sum(weights)) for weight in weights]
        parts = share(amount, weights)
        self.assertEqual(sum(parts), amount)
        for part, one in zip(parts, exact):
            self.assertLess(abs(part - one), 1)
        # What is left over, one by one, to the one that lacks most of what it had at first.
        right = [one.numerator // one.denominator for one in exact]
        lacks = [one - part for one, part in zip(exact, right)]
        for _ in range(amount - sum(right)):
            at = lacks.index(max(lacks))
            right[at] += 1
            lacks[at] = -1
        self.assertEqual(parts, right, (amount, weights))


if __name__ == "__main__":
    unittest.main()
