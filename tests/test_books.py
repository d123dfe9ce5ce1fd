import unittest

from duewrits.books import Book, amount_of, book_of, fact_at, rule_at, stands, value_of
from duewrits.errors import BadText, NotAllowed, WritError

ALL = (0, 10000)
REPORT = ("report", 5, "ann", "age", 40, (10, 20))
ENACT = ("enact", 5, "base", "plus 10 fact age or 0", (10, 20))
WRONG_NAMES = ["", "abcdefghijklm", "9a", "Ann", "a b", "a-b", "fact", "known", "due", "or", "plus", "minus", "times"]
WRONG_NAMES += ["least", "most", "percent", "if", "below", "same", "not", "both", "either"]
WRONG_SPANS = [(0, 0), (5, 5), (6, 5), (-1, 5), (0, 10001), (9999, 9999), (10000, 10000), (10000, 10001)]
GOOD_SPANS = [(0, 1), (0, 10000), (9999, 10000), (0, 9999), (5, 6)]
FORTY_ONE = "plus 5 " * 20 + "5"


def report(came=5, person="ann", fact="age", value=40, span=ALL):
    return ("report", came, person, fact, value, span)


def enact(came=5, rule="base", text="5", span=ALL):
    return ("enact", came, rule, text, span)


def strike(came, index):
    return ("strike", came, index)


class BookCase(unittest.TestCase):
    def assertRefused(self, book, entry, kind=NotAllowed):
        before = book.entries()
        with self.assertRaises(kind) as caught:
            book.enter(entry)
        self.assertIs(type(caught.exception), kind, entry)
        self.assertEqual(book.entries(), before)
        return caught.exception

    def assertTaken(self, book, entry):
        before = book.entries()
        self.assertIsNone(book.enter(entry))
        self.assertEqual(book.entries(), before + [entry])


class EnterTest(BookCase):
    def test_a_new_book_has_no_entries(self):
        self.assertEqual(Book().entries(), [])

    def test_each_kind_of_entry(self):
        book = Book()
        for entry in [REPORT, ENACT, strike(5, 0), strike(6, 1), report(9999), enact(9999), strike(9999, 5)]:
            self.assertTaken(book, entry)

    def test_two_books_share_nothing(self):
        first, second = Book(), Book()
        first.enter(REPORT)
        first.enter(strike(5, 0))
        self.assertEqual(second.entries(), [])
        second.enter(REPORT)
        self.assertTaken(second, strike(5, 0))

    def test_the_day(self):
        for came in [-1, -9999, 10000, 10001]:
            self.assertRefused(Book(), report(came))
            self.assertRefused(Book(), enact(came))
            self.assertRefused(book_of([report(0)]), strike(came, 0))
        for came in [0, 1, 9999]:
            self.assertTaken(Book(), report(came))
            self.assertTaken(Book(), enact(came))

    def test_the_order_of_the_days(self):
        book = book_of([report(5)])
        for entry in [report(4), enact(4), strike(4, 0), report(0)]:
            self.assertRefused(book, entry)
        for entry in [enact(5), strike(5, 0), report(6), strike(6, 1), report(6)]:
            self.assertTaken(book, entry)
        self.assertRefused(book, report(5))

    def test_a_refused_entry_does_not_move_the_day(self):
        book = book_of([report(5)])
        self.assertRefused(book, report(9, person="Ann"))
        self.assertRefused(book, enact(9, text="plus"), BadText)
        self.assertRefused(book, strike(9, 1))
        self.assertTaken(book, report(5))

    def test_names(self):
        for name in WRONG_NAMES:
            self.assertRefused(Book(), report(person=name))
            self.assertRefused(Book(), report(fact=name))
            self.assertRefused(Book(), enact(rule=name))
        for name in ["a", "abcdefghijkl", "a9", "number"]:
            self.assertTaken(Book(), report(person=name))
            self.assertTaken(Book(), report(fact=name))
            self.assertTaken(Book(), enact(rule=name))

    def test_values(self):
        for value in [0, 999999999, -999999999, 100000000, -1]:
            self.assertTaken(Book(), report(value=value))
        for value in [1000000000, -1000000000, 10 ** 12, -10 ** 20]:
            self.assertRefused(Book(), report(value=value))

    def test_spans(self):
        for span in WRONG_SPANS:
            self.assertRefused(Book(), report(span=span))
            self.assertRefused(Book(), enact(span=span))
        for span in GOOD_SPANS:
            self.assertTaken(Book(), report(span=span))
            self.assertTaken(Book(), enact(span=span))

    def test_texts(self):
        for text, at in [("", 0), ("plus 1 2 3", 3), ("plus 1", 2), ("fact age or 5 or 6", 4), ("-0", 0)]:
            error = self.assertRefused(Book(), enact(text=text), BadText)
            self.assertEqual(error.at, at)
        self.assertRefused(Book(), enact(text=FORTY_ONE))
        self.assertRefused(Book(), enact(text="or " * 41))
        self.assertRefused(Book(), enact(text="plus 5 " * 20), BadText)

    def test_a_text_is_kept_as_it_was_written(self):
        self.assertTaken(Book(), enact(text="  plus  5   fact age "))

    def test_strikes_of_what_is_not_there(self):
        book = book_of([report(), enact()])
        for index in [2, 3, 100, -1, -2, -3]:
            self.assertRefused(book, strike(5, index))
        self.assertRefused(Book(), strike(5, 0))
        self.assertRefused(Book(), strike(5, -1))

    def test_a_strike_of_a_strike(self):
        book = book_of([report(), strike(5, 0)])
        self.assertRefused(book, strike(5, 1))
        self.assertRefused(book, strike(9, 1))

    def test_a_strike_of_what_has_been_struck(self):
        book = book_of([report(), enact(), strike(6, 0)])
        self.assertRefused(book, strike(6, 0))
        self.assertRefused(book, strike(7, 0))
        self.assertTaken(book, strike(7, 1))
        self.assertRefused(book, strike(7, 1))

    def test_a_refused_strike_strikes_nothing(self):
        book = book_of([report()])
        self.assertRefused(book, strike(4, 0))
        self.assertTrue(stands(book, 0, 9999))
        self.assertTaken(book, strike(5, 0))

    def test_the_hundredth_entry(self):
        book = book_of([report()] * 99)
        self.assertTaken(book, strike(5, 0))
        self.assertEqual(len(book.entries()), 100)
        for entry in [report(), enact(), strike(5, 1), report(9999)]:
            self.assertRefused(book, entry)

    def test_refused_entries_do_not_count(self):
        book = Book()
        for _ in range(150):
            self.assertRefused(book, report(span=(5, 5)))
        for _ in range(100):
            book.enter(enact())
        self.assertRefused(book, enact())


class TwoErrorsTest(BookCase):
    def test_a_full_book_comes_before_a_bad_text(self):
        self.assertRefused(book_of([report()] * 100), enact(text="plus"))

    def test_the_day_comes_before_a_bad_text(self):
        self.assertRefused(Book(), enact(came=-1, text="plus"))
        self.assertRefused(Book(), enact(came=10000, text="plus"))
        self.assertRefused(book_of([report(5)]), enact(came=4, text="plus"))

    def test_the_name_comes_before_a_bad_text(self):
        for name in WRONG_NAMES:
            self.assertRefused(Book(), enact(rule=name, text="plus"))

    def test_a_bad_text_comes_before_the_span(self):
        for span in WRONG_SPANS:
            self.assertEqual(self.assertRefused(Book(), enact(text="plus", span=span), BadText).at, 1)

    def test_too_many_words_come_before_a_bad_text(self):
        self.assertRefused(Book(), enact(text="plus " * 41, span=(5, 5)))

    def test_two_of_one_kind(self):
        self.assertRefused(book_of([report()] * 100), report(came=-1))
        self.assertRefused(Book(), report(person="", fact="", value=10 ** 9, span=(0, 0)))
        self.assertRefused(book_of([report(5)]), strike(4, 9))


class BookOfTest(BookCase):
    def test_it_takes_the_entries(self):
        entries = [report(), enact(), strike(6, 0)]
        book = book_of(entries)
        self.assertIsInstance(book, Book)
        self.assertEqual(book.entries(), entries)
        self.assertEqual(book_of([]).entries(), [])
        self.assertFalse(stands(book, 0, 6))

    def test_it_takes_what_another_book_has(self):
        book = book_of([report(), enact(), strike(6, 0)])
        self.assertEqual(book_of(book.entries()).entries(), book.entries())

    def assertRaisesOf(self, entries, kind):
        with self.assertRaises(WritError) as caught:
            book_of(entries)
        self.assertIs(type(caught.exception), kind)
        return caught.exception

    def test_it_raises_what_the_first_refused_entry_raises(self):
        error = self.assertRaisesOf([enact(), enact(text="plus 1"), report(person="")], BadText)
        self.assertEqual(error.at, 2)
        self.assertRaisesOf([enact(), report(person=""), enact(text="plus 1")], NotAllowed)
        self.assertRaisesOf([report(5), report(4)], NotAllowed)
        self.assertRaisesOf([strike(0, 0)], NotAllowed)
        self.assertRaisesOf([report()] * 101, NotAllowed)
        self.assertRaisesOf([report()] * 100 + [enact(text="plus")], NotAllowed)

    def test_each_book_is_new(self):
        entries = [report()]
        first, second = book_of(entries), book_of(entries)
        first.enter(enact())
        self.assertEqual(second.entries(), entries)


class StandsTest(BookCase):
    def test_before_on_and_behind_the_day_on_which_it_came(self):
        book = book_of([report(5), enact(7)])
        self.assertEqual([stands(book, 0, known) for known in [0, 4, 5, 6, 9999]], [False, False, True, True, True])
        self.assertEqual([stands(book, 1, known) for known in [5, 6, 7, 8]], [False, False, True, True])

    def test_before_on_and_behind_the_day_on_which_it_is_struck(self):
        book = book_of([report(5), enact(5), strike(8, 0), strike(9, 1)])
        self.assertEqual([stands(book, 0, known) for known in [4, 5, 7, 8, 9]], [False, True, True, False, False])
        self.assertEqual([stands(book, 1, known) for known in [4, 5, 8, 9, 9999]], [False, True, True, False, False])

    def test_struck_on_the_day_on_which_it_came(self):
        book = book_of([report(5), strike(5, 0)])
        self.assertEqual([stands(book, 0, known) for known in [4, 5, 6]], [False, False, False])

    def test_days_at_the_edges(self):
        book = book_of([report(0), report(9999), strike(9999, 0)])
        self.assertTrue(stands(book, 0, 0))
        self.assertTrue(stands(book, 0, 9998))
        self.assertFalse(stands(book, 0, 9999))
        self.assertFalse(stands(book, 1, 9998))
        self.assertTrue(stands(book, 1, 9999))

    def test_a_strike_never_stands(self):
        book = book_of([report(5), strike(6, 0)])
        self.assertEqual([stands(book, 1, known) for known in [5, 6, 7]], [False, False, False])

    def test_the_span_plays_no_part(self):
        self.assertTrue(stands(book_of([report(5, span=(8, 9))]), 0, 5))

    def test_what_is_not_there_does_not_stand(self):
        book = book_of([report(5)])
        for index in [-1, 1, 2]:
            self.assertIs(stands(book, index, 9), False)

    def test_it_is_true_or_false(self):
        book = book_of([report(5), strike(7, 0)])
        self.assertIs(stands(book, 0, 5), True)
        self.assertIs(stands(book, 0, 7), False)
        self.assertIs(stands(book, 0, 4), False)


class CountsTest(BookCase):
    """What holds for reports holds for enactments, so most is asked of both."""

    def both_at(self, spans, day, known):
        """The index that counts, where reports or enactments come from day 5 on, one a day."""
        reports = book_of([report(5 + at, span=span) for at, span in enumerate(spans)])
        enacts = book_of([enact(5 + at, span=span) for at, span in enumerate(spans)])
        found = fact_at(reports, "ann", "age", day, known)
        self.assertEqual(rule_at(enacts, "base", day, known), found)
        return found

    def test_none_in_an_empty_book(self):
        self.assertIsNone(self.both_at([], 5, 5))

    def test_before_on_and_behind_the_day_on_which_it_came(self):
        self.assertEqual([self.both_at([ALL], 0, known) for known in [0, 4, 5, 6, 9999]], [None, None, 0, 0, 0])

    def test_the_ends_of_the_span(self):
        found = [self.both_at([(10, 20)], day, 5) for day in [0, 9, 10, 15, 19, 20, 21, 9999]]
        self.assertEqual(found, [None, None, 0, 0, 0, None, None, None])
        found = [self.both_at([(9999, 10000)], day, 5) for day in [0, 9998, 9999]]
        self.assertEqual(found, [None, None, 0])
        self.assertEqual([self.both_at([(0, 1)], day, 5) for day in [0, 1]], [0, None])

    def test_days_long_past_may_be_told_late(self):
        self.assertEqual(self.both_at([(0, 3)], 2, 5), 0)
        self.assertEqual(self.both_at([(0, 3)], 2, 4), None)

    def test_the_last_one_counts(self):
        spans = [ALL, (10, 20), (15, 30)]
        days = [9, 10, 14, 15, 19, 20, 29, 30]
        self.assertEqual([self.both_at(spans, day, 7) for day in days], [0, 1, 1, 2, 2, 2, 2, 0])
        self.assertEqual([self.both_at(spans, day, 6) for day in days], [0, 1, 1, 1, 1, 0, 0, 0])
        self.assertEqual([self.both_at(spans, day, 5) for day in days], [0] * 8)
        self.assertEqual([self.both_at(spans, day, 4) for day in days], [None] * 8)

    def test_the_last_one_of_a_day_counts(self):
        book = book_of([report(5, value=1), report(5, value=2), enact(5), enact(5)])
        self.assertEqual(fact_at(book, "ann", "age", 0, 5), 1)
        self.assertEqual(rule_at(book, "base", 0, 5), 3)

    def test_what_is_struck_counts_no_more(self):
        entries = [report(5), report(6), enact(6), enact(7)]
        book = book_of(entries + [strike(8, 1), strike(8, 3), strike(9, 0), strike(9, 2)])
        found = [fact_at(book, "ann", "age", 0, known) for known in [4, 5, 6, 7, 8, 9]]
        self.assertEqual(found, [None, 0, 1, 1, 0, None])
        found = [rule_at(book, "base", 0, known) for known in [5, 6, 7, 8, 9]]
        self.assertEqual(found, [None, 2, 3, 2, None])

    def test_a_strike_of_an_earlier_one_leaves_the_last_one(self):
        book = book_of([report(5), report(6), strike(7, 0)])
        self.assertEqual([fact_at(book, "ann", "age", 0, known) for known in [5, 6, 7]], [0, 1, 1])

    def test_persons_facts_and_rules_apart(self):
        book = book_of([report(person="ann"), report(person="bob"), report(fact="sex"), enact(rule="base"),
                        enact(rule="more"), report(person="base", fact="base"), enact(rule="age")])
        self.assertEqual(fact_at(book, "ann", "age", 0, 5), 0)
        self.assertEqual(fact_at(book, "bob", "age", 0, 5), 1)
        self.assertEqual(fact_at(book, "ann", "sex", 0, 5), 2)
        self.assertIsNone(fact_at(book, "bob", "sex", 0, 5))
        self.assertIsNone(fact_at(book, "age", "ann", 0, 5))
        self.assertEqual(rule_at(book, "base", 0, 5), 3)
        self.assertEqual(rule_at(book, "more", 0, 5), 4)
        self.assertEqual(rule_at(book, "age", 0, 5), 6)
        self.assertIsNone(rule_at(book, "ann", 0, 5))
        self.assertIsNone(rule_at(book, "sex", 0, 5))

    def test_asking_changes_nothing(self):
        book = book_of([report(), enact(), strike(6, 0)])
        before = book.entries()
        for known in range(5, 8):
            stands(book, 0, known)
            fact_at(book, "ann", "age", 0, known)
            rule_at(book, "base", 0, known)
        self.assertEqual(book.entries(), before)


class CopiesTest(BookCase):
    def test_a_returned_list_is_new(self):
        book = book_of([report(), enact()])
        found = book.entries()
        found.clear()
        book.entries().append(strike(6, 0))
        self.assertEqual(book.entries(), [report(), enact()])
        self.assertIsNot(book.entries(), book.entries())

    def test_a_list_from_which_a_book_was_made(self):
        entries = [report(), enact()]
        book = book_of(entries)
        entries[0] = report(value=1)
        entries.append(report())
        self.assertEqual(book.entries(), [report(), enact()])

    def test_what_is_passed_is_as_it_was(self):
        entries = [report(), enact(), strike(6, 0)]
        before = list(entries)
        book = book_of(entries)
        book.enter(report(7))
        self.assertEqual(entries, before)
        refused = [report(), enact(text="plus")]
        with self.assertRaises(BadText):
            book_of(refused)
        self.assertEqual(refused, [report(), enact(text="plus")])


class ContentTest(BookCase):
    def test_values_and_parsed_texts_by_their_indexes(self):
        entries = [report(value=-3), enact(text=" plus 1  2"), strike(5, 0), enact(text="due more"), report(value=0)]
        book = book_of(entries)
        self.assertEqual([value_of(book, at) for at in (0, 4)], [-3, 0])
        self.assertEqual(amount_of(book, 1), ("plus", ("number", 1), ("number", 2)))
        self.assertEqual(amount_of(book, 3), ("due", "more"))

    def test_a_refused_enactment_leaves_no_text(self):
        book = Book()
        self.assertRefused(book, enact(text="7", span=(5, 5)))
        book.enter(enact(text="8"))
        self.assertEqual(amount_of(book, 0), ("number", 8))


class ExampleTest(unittest.TestCase):
    def test_the_entries_of_the_example(self):
        first = ("enact", 3, "base", "plus 10 fact age or 0", (0, 10000))
        second = ("report", 5, "ann", "age", 40, (0, 10000))
        book = book_of([first, second])
        self.assertEqual(rule_at(book, "base", 1, 4), 0)
        self.assertIsNone(fact_at(book, "ann", "age", 1, 4))
        self.assertEqual(fact_at(book, "ann", "age", 1, 5), 1)


if __name__ == "__main__":
    unittest.main()
