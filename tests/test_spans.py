import random
import unittest

from duewrits.books import book_of
from duewrits.decisions import decide
from duewrits.spans import course, total
from second_way import DAYS, decide_second, random_claim, random_entries, total_second

ALL = (0, 10000)


def enact(text, span=ALL, came=0, rule="base"):
    return ("enact", came, rule, text, span)


def report(value, span=ALL, came=0, person="ann", fact="age"):
    return ("report", came, person, fact, value, span)


def amount(number):
    return ("amount", number)


NONE = ("none", "base")
MISSING = ("missing", "age")


class SpansCase(unittest.TestCase):
    def assertCourse(self, entries, span, runs, known=9999):
        self.assertEqual(course(book_of(entries), ("ann", "base", span), known), runs)

    def assertTotal(self, entries, span, found, known=9999):
        self.assertEqual(total(book_of(entries), ("ann", "base", span), known), found)


class CourseTest(SpansCase):
    def test_the_example_of_the_interface(self):
        book = book_of([enact("5", (0, 10))])
        self.assertEqual(course(book, ("ann", "base", (8, 12)), 0), [(8, 10, amount(5)), (10, 12, NONE)])

    def test_one_day(self):
        for day in [0, 7, 9999]:
            self.assertCourse([enact("5")], (day, day + 1), [(day, day + 1, amount(5))])
            self.assertCourse([], (day, day + 1), [(day, day + 1, NONE)])

    def test_all_days(self):
        self.assertCourse([enact("5")], ALL, [(0, 10000, amount(5))])
        self.assertCourse([], ALL, [(0, 10000, NONE)])
        self.assertCourse([enact("5", (9999, 10000))], ALL, [(0, 9999, NONE), (9999, 10000, amount(5))])
        self.assertCourse([enact("5", (0, 1))], ALL, [(0, 1, amount(5)), (1, 10000, NONE)])

    def test_entries_begin_and_end_at_the_ends_of_the_span(self):
        self.assertCourse([enact("5", (10, 20))], (10, 20), [(10, 20, amount(5))])
        self.assertCourse([enact("5", (10, 20))], (9, 21), [(9, 10, NONE), (10, 20, amount(5)), (20, 21, NONE)])
        self.assertCourse([enact("5", (10, 20))], (11, 19), [(11, 19, amount(5))])
        self.assertCourse([enact("5", (10, 20))], (0, 10), [(0, 10, NONE)])
        self.assertCourse([enact("5", (10, 20))], (20, 30), [(20, 30, NONE)])

    def test_facts_that_change(self):
        entries = [enact("fact age"), report(1, (5, 10)), report(2, (8, 12)), report(9, (0, 20), 0, "bob")]
        runs = [(0, 5, MISSING), (5, 8, amount(1)), (8, 12, amount(2)), (12, 20, MISSING)]
        self.assertCourse(entries, (0, 20), runs)

    def test_an_entry_in_the_midst_of_another(self):
        entries = [enact("fact age"), report(1), report(2, (8, 12))]
        self.assertCourse(entries, (0, 20), [(0, 8, amount(1)), (8, 12, amount(2)), (12, 20, amount(1))])

    def test_runs_that_join(self):
        joined = [(0, 20, amount(5))]
        self.assertCourse([enact("5", (0, 10)), enact("5", (10, 20))], (0, 20), joined)
        self.assertCourse([enact("5", (0, 12)), enact("5", (8, 20))], (0, 20), joined)
        self.assertCourse([enact("5", (0, 10)), enact("plus 2 3", (10, 20))], (0, 20), joined)
        self.assertCourse([enact("fact age or 5"), report(5, (3, 6)), report(5, (6, 9))], (0, 20), joined)
        self.assertCourse([enact("5"), report(1, (3, 6)), enact("6", (3, 6), 0, "more")], (0, 20), joined)

    def test_stops_that_join(self):
        texts = [enact("fact age", (0, 10)), enact("plus 1 fact age", (10, 20))]
        self.assertCourse(texts, (0, 20), [(0, 20, MISSING)])
        self.assertCourse(texts, (0, 21), [(0, 20, MISSING), (20, 21, NONE)])
        texts = [enact("due base", (0, 10)), enact("due more", (10, 20)), enact("due base", ALL, 0, "more")]
        self.assertCourse(texts, (0, 20), [(0, 20, ("circle", "base"))])
        texts = [enact("fact age", (0, 10)), enact("fact kids", (10, 20))]
        self.assertCourse(texts, (0, 20), [(0, 10, MISSING), (10, 20, ("missing", "kids"))])

    def test_what_is_the_same_later_is_a_run_of_its_own(self):
        entries = [enact("5"), enact("6", (8, 9))]
        self.assertCourse(entries, (7, 10), [(7, 8, amount(5)), (8, 9, amount(6)), (9, 10, amount(5))])

    def test_only_what_was_known_on_the_day(self):
        entries = [enact("5", (0, 10), 3), enact("6", (5, 10), 4), ("strike", 6, 1)]
        self.assertCourse(entries, (0, 10), [(0, 10, NONE)], 2)
        self.assertCourse(entries, (0, 10), [(0, 10, amount(5))], 3)
        self.assertCourse(entries, (0, 10), [(0, 5, amount(5)), (5, 10, amount(6))], 4)
        self.assertCourse(entries, (0, 10), [(0, 5, amount(5)), (5, 10, amount(6))], 5)
        self.assertCourse(entries, (0, 10), [(0, 10, amount(5))], 6)

    def test_the_days_of_the_span_may_come_after_what_is_known(self):
        self.assertCourse([enact("5", ALL, 3)], (100, 200), [(100, 200, amount(5))], 3)

    def test_it_is_new_and_nothing_is_modified(self):
        entries = [enact("5", (0, 10)), enact("6", (10, 20))]
        book, claim = book_of(entries), ("ann", "base", (5, 15))
        found = course(book, claim, 0)
        self.assertIsNot(course(book, claim, 0), found)
        found.clear()
        self.assertEqual(course(book, claim, 0), [(5, 10, amount(5)), (10, 15, amount(6))])
        self.assertEqual(total(book, claim, 0), ("total", 55))
        self.assertEqual(book.entries(), entries)

    def test_the_kinds_of_what_is_returned(self):
        found = course(book_of([enact("5", (0, 10))]), ("ann", "base", (8, 12)), 0)
        self.assertIs(type(found), list)
        self.assertEqual([type(run) for run in found], [tuple, tuple])


class TotalTest(SpansCase):
    def test_the_example_of_the_interface(self):
        self.assertTotal([enact("5", (0, 10))], (8, 12), ("stopped", 10, NONE), 0)

    def test_one_day(self):
        for day in [0, 7, 9999]:
            self.assertTotal([enact("5")], (day, day + 1), ("total", 5))
            self.assertTotal([enact("0")], (day, day + 1), ("total", 0))
            self.assertTotal([], (day, day + 1), ("stopped", day, NONE))

    def test_many_days(self):
        self.assertTotal([enact("5", (0, 10))], (0, 10), ("total", 50))
        self.assertTotal([enact("5", (0, 10))], (3, 9), ("total", 30))
        self.assertTotal([enact("5"), enact("-7", (8, 11))], (5, 15), ("total", 5 * 7 - 7 * 3))
        self.assertTotal([enact("5", (0, 12)), enact("5", (8, 20))], (0, 20), ("total", 100))
        self.assertTotal([enact("-5")], ALL, ("total", -50000))
        self.assertTotal([enact("5"), enact("6", (9999, 10000))], (9998, 10000), ("total", 11))

    def test_a_total_knows_no_limit(self):
        self.assertTotal([enact("times 100000000 10000000")], ALL, ("total", 10 ** 19))
        self.assertTotal([enact("times -100000000 10000000")], ALL, ("total", -(10 ** 19)))

    def test_a_day_without_an_amount(self):
        entries = [enact("fact age"), report(4)]
        for first, after in [(5, 6), (5, 9), (10, 11), (17, 20)]:
            stopped = entries + [enact("fact kids", (first, after))]
            self.assertTotal(stopped, (5, 20), ("stopped", first, ("missing", "kids")))
            self.assertTotal(stopped, (0, first), ("total", 4 * first))
            self.assertTotal(stopped, (after, after + 3), ("total", 12))

    def test_the_first_of_several(self):
        entries = [enact("1"), enact("fact age", (12, 13)), enact("due base", (7, 9)), enact("due none", (9, 10))]
        self.assertTotal(entries, (0, 20), ("stopped", 7, ("circle", "base")))
        self.assertTotal(entries, (8, 20), ("stopped", 8, ("circle", "base")))
        self.assertTotal(entries, (9, 20), ("stopped", 9, ("none", "none")))
        self.assertTotal(entries, (10, 20), ("stopped", 12, MISSING))
        self.assertTotal(entries, (13, 20), ("total", 7))

    def test_what_stops_may_begin_before_the_span(self):
        self.assertTotal([enact("1", (10, 20))], (5, 15), ("stopped", 5, NONE))
        self.assertTotal([], (9999, 10000), ("stopped", 9999, NONE))

    def test_only_what_was_known_on_the_day(self):
        entries = [enact("5", ALL, 3), enact("6", (5, 10), 4), ("strike", 6, 1), ("strike", 7, 0)]
        found = [total(book_of(entries), ("ann", "base", (0, 10)), known) for known in range(2, 8)]
        stopped = ("stopped", 0, NONE)
        self.assertEqual(found, [stopped, ("total", 50), ("total", 55), ("total", 55), ("total", 50), stopped])


class EachDayTest(unittest.TestCase):
    def test_many_books_day_by_day(self):
        for seed in range(400):
            source = random.Random(seed)
            entries = random_entries(source, source.choice([3, 10, 20]))
            claim = random_claim(source)
            self.check(entries, claim, source.randrange(DAYS))

    def check(self, entries, claim, known):
        book = book_of(entries)
        person, rule, (first, after) = claim
        days = [decide_second(entries, (person, rule, day, known))[0] for day in range(first, after)]
        found = course(book, claim, known)
        self.assertEqual([decision for begin, end, decision in found for _ in range(begin, end)], days)
        self.assertEqual([run[0] for run in found] + [after], [first] + [run[1] for run in found])
        for run, following in zip(found, found[1:]):
            self.assertNotEqual(run[2], following[2])
        self.assertEqual(total(book, claim, known), total_second(entries, claim, known))

    def test_a_long_span_day_by_day(self):
        entries = [enact("plus fact age fact kids or 3")]
        for at in range(60):
            entries.append(report(at, (at * 150, at * 150 + 400), 0, "ann", "kids" if at % 3 else "age"))
        book = book_of(entries)
        days = [decide(book, ("ann", "base", day, 0))[0] for day in range(0, 10000, 7)]
        found = course(book, ("ann", "base", ALL), 0)
        for day, decision in zip(range(0, 10000, 7), days):
            self.assertEqual([run[2] for run in found if run[0] <= day < run[1]], [decision])


if __name__ == "__main__":
    unittest.main()
