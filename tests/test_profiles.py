import random
import unittest

from duewrits.books import book_of
from duewrits.decisions import decide
from duewrits.errors import NotAllowed
from duewrits.profiles import profile
from second_way import FACTS, decide_second, random_entries, random_question

ALL = (0, 10000)
QUESTION = ("ann", "base", 5, 5)
LARGEST = 999999999


def enact(text, rule="base", came=0, span=ALL):
    return ("enact", came, rule, text, span)


def report(value, fact="age", came=0, span=ALL, person="ann"):
    return ("report", came, person, fact, value, span)


def profile_of(text, low, high, others=()):
    """The profile of the age for a rule of this text."""
    return profile(book_of([enact(text)] + list(others)), QUESTION, "age", low, high)


class LinesTest(unittest.TestCase):
    def test_the_example_of_the_interface(self):
        book = book_of([("enact", 0, "base", "if below fact age 18 0 fact age", (0, 10))])
        self.assertEqual(profile(book, ("ann", "base", 1, 0), "age", 16, 20), [(16, 18, 0, 0), (18, 20, 1, 0)])

    def test_slopes_of_every_sign(self):
        self.assertEqual(profile_of("fact age", 0, 10), [(0, 10, 1, 0)])
        self.assertEqual(profile_of("plus 7 times 3 fact age", 2, 10), [(2, 10, 3, 7)])
        self.assertEqual(profile_of("minus 7 fact age", 2, 10), [(2, 10, -1, 7)])
        self.assertEqual(profile_of("plus 100 times -250 fact age", -9, 10), [(-9, 10, -250, 100)])
        self.assertEqual(profile_of("times 0 fact age", -9, 10), [(-9, 10, 0, 0)])
        self.assertEqual(profile_of("minus fact age fact age", -9, 10), [(-9, 10, 0, 0)])
        self.assertEqual(profile_of("plus -4 times 0 fact age", -9, 10), [(-9, 10, 0, -4)])

    def test_values_below_zero(self):
        self.assertEqual(profile_of("plus 3 fact age", -20, -10), [(-20, -10, 1, 3)])
        self.assertEqual(profile_of("most 0 fact age", -5, 5), [(-5, 1, 0, 0), (1, 5, 1, 0)])
        self.assertEqual(profile_of("most fact age minus 0 fact age", -5, 5), [(-5, 1, -1, 0), (1, 5, 1, 0)])

    def test_one_value_alone(self):
        self.assertEqual(profile_of("times 3 fact age", 4, 5), [(4, 5, 0, 12)])
        self.assertEqual(profile_of("fact age", 0, 1), [(0, 1, 0, 0)])
        self.assertEqual(profile_of("fact kids", 4, 5), [(4, 5, ("missing", "kids"))])
        self.assertEqual(profile_of("fact age", LARGEST - 1, LARGEST), [(LARGEST - 1, LARGEST, 0, LARGEST - 1)])
        self.assertEqual(profile_of("fact age", -LARGEST, 1 - LARGEST), [(-LARGEST, 1 - LARGEST, 0, -LARGEST)])

    def test_two_values_are_always_on_a_line(self):
        self.assertEqual(profile_of("if same fact age 4 17 -20", 4, 6), [(4, 6, -37, 165)])
        self.assertEqual(profile_of("times fact age fact age", 4, 6), [(4, 6, 9, -20)])

    def test_two_hundred_values(self):
        self.assertEqual(profile_of("times 2 fact age", 0, 200), [(0, 200, 2, 0)])
        self.assertEqual(profile_of("times 2 fact age", -100, 100), [(-100, 100, 2, 0)])
        runs = profile_of("times 2 fact age", LARGEST - 200, LARGEST)
        self.assertEqual(runs, [(LARGEST - 200, LARGEST, 2, 0)])
        runs = profile_of("times 2 fact age", -LARGEST, 200 - LARGEST)
        self.assertEqual(runs, [(-LARGEST, 200 - LARGEST, 2, 0)])


class EdgesTest(unittest.TestCase):
    def test_each_run_is_the_longest_from_where_it_begins(self):
        # The squares: two and two on lines of their own, from the first on.
        runs = profile_of("times fact age fact age", 0, 7)
        self.assertEqual(runs, [(0, 2, 1, 0), (2, 4, 5, -6), (4, 6, 9, -20), (6, 7, 0, 36)])
        runs = profile_of("times fact age fact age", 1, 7)
        self.assertEqual(runs, [(1, 3, 3, -2), (3, 5, 7, -12), (5, 7, 11, -30)])

    def test_the_value_behind_a_step_belongs_to_the_earlier_run_if_it_is_on_its_line(self):
        # 0 0 0 3 6 9: the 0 at 3 is on both lines.
        self.assertEqual(profile_of("most 0 times 3 minus fact age 3", 1, 7), [(1, 4, 0, 0), (4, 7, 3, -9)])
        # 5 5 9 9: 5 at 2 and 9 at 3 would be on a line, but 5 goes with the one before.
        self.assertEqual(profile_of("if below fact age 3 5 9", 1, 5), [(1, 3, 0, 5), (3, 5, 0, 9)])
        # One value less at the beginning: now 5 and 9 are on a line.
        self.assertEqual(profile_of("if below fact age 3 5 9", 2, 5), [(2, 4, 4, -3), (4, 5, 0, 9)])

    def test_a_single_value_between_others(self):
        runs = profile_of("if same fact age 3 100 0", 0, 8)
        self.assertEqual(runs, [(0, 3, 0, 0), (3, 5, -100, 400), (5, 8, 0, 0)])

    def test_steps_of_percent(self):
        runs = profile_of("percent 50 fact age", -2, 4)
        self.assertEqual(runs, [(-2, 0, 0, -1), (0, 2, 0, 0), (2, 4, 0, 1)])

    def test_the_last_run_ends_before_high(self):
        for high in range(11, 40):
            runs = profile_of("if below fact age 20 1 fact age", 10, high)
            self.assertEqual(runs[0][0], 10)
            self.assertEqual(runs[-1][1], high)
        self.assertEqual(profile_of("if below fact age 20 1 fact age", 10, 20), [(10, 20, 0, 1)])
        self.assertEqual(profile_of("if below fact age 20 1 fact age", 10, 21), [(10, 20, 0, 1), (20, 21, 0, 20)])
        self.assertEqual(profile_of("if below fact age 20 1 fact age", 20, 30), [(20, 30, 1, 0)])

    def test_many_runs(self):
        runs = profile_of("if same fact age times 2 percent 50 fact age 1 fact kids", 0, 200)
        self.assertEqual(len(runs), 200)
        self.assertEqual(runs[0:2], [(0, 1, 0, 1), (1, 2, ("missing", "kids"))])


class StopsTest(unittest.TestCase):
    def test_each_kind_of_stop(self):
        deep = [enact("due c", "b"), enact("due d", "c"), enact("due e", "d"), enact("due f", "e"),
                enact("due g", "f"), enact("1", "g")]
        self.assert_stopped("fact kids", ("missing", "kids"))
        self.assert_stopped("due more", ("none", "more"))
        self.assert_stopped("due base", ("circle", "base"))
        self.assert_stopped("due b", ("deep", "g"), deep)
        self.assert_stopped("times 999999999 times 1000 fact age", ("large", "base"), (), 1900, 2000)

    def assert_stopped(self, text, stop, others=(), low=0, high=10):
        middle = (low + high) // 2
        self.assertEqual(profile_of(text, low, high, others), [(low, high, stop)])
        runs = profile_of(f"if below fact age {middle} 8 {text}", low, high, others)
        self.assertEqual(runs, [(low, middle, 0, 8), (middle, high, stop)])
        runs = profile_of(f"if below fact age {middle} {text} fact age", low, high, others)
        self.assertEqual(runs, [(low, middle, stop), (middle, high, 1, 0)])

    def test_long(self):
        text = "plus fact age plus fact age due more"
        more = enact("if below fact age 3 7 plus due rest plus due rest plus due rest plus due rest due rest", "more")
        rest = enact(" ".join(["plus fact age"] * 9 + ["if below fact age 6 0 plus due last due last"]), "rest")
        last = enact(" ".join(["plus fact age"] * 5 + ["0"]), "last")
        runs = profile_of(text, 0, 9, [more, rest, last])
        self.assertEqual(runs, [(0, 3, 2, 7), (3, 6, 47, 0), (6, 9, ("long", "age"))])

    def test_large_on_both_sides(self):
        text = "times 100000000 times 200000 fact age"
        runs = profile_of(text, -100, 100)
        stop = ("large", "base")
        self.assertEqual(runs, [(-100, -50, stop), (-50, 51, 2 * 10 ** 13, 0), (51, 100, stop)])

    def test_stops_of_different_names_are_runs_of_their_own(self):
        text = "if below fact age 3 fact kids if below fact age 5 fact debt if below fact age 7 due kids due base"
        runs = [(0, 3, ("missing", "kids")), (3, 5, ("missing", "debt")), (5, 7, ("none", "kids")),
                (7, 9, ("circle", "base"))]
        self.assertEqual(profile_of(text, 0, 9), runs)

    def test_the_same_stop_by_different_ways_is_one_run(self):
        text = "if below fact age 5 fact kids plus 1 fact kids"
        self.assertEqual(profile_of(text, 0, 9), [(0, 9, ("missing", "kids"))])

    def test_a_stop_between_amounts(self):
        text = "if same fact age 4 fact kids fact age"
        self.assertEqual(profile_of(text, 0, 9), [(0, 4, 1, 0), (4, 5, ("missing", "kids")), (5, 9, 1, 0)])
        # A run of one value before a stop, and one behind it.
        self.assertEqual(profile_of(text, 3, 6), [(3, 4, 0, 3), (4, 5, ("missing", "kids")), (5, 6, 0, 5)])

    def test_a_rule_that_is_not_in_force(self):
        self.assertEqual(profile(book_of([]), QUESTION, "age", 0, 200), [(0, 200, ("none", "base"))])


class SupposedTest(unittest.TestCase):
    def test_a_fact_that_is_reported(self):
        # What is supposed comes behind what was reported.
        for others in [[report(50)], [report(50), report(60)], [report(50, came=5)], [report(50, span=(5, 6))]]:
            self.assertEqual(profile_of("fact age", 0, 9, others), [(0, 9, 1, 0)])
            self.assertEqual(profile_of("if same fact age 50 1 2", 40, 49, others), [(40, 49, 0, 2)])

    def test_a_fact_that_is_not_reported(self):
        self.assertEqual(profile_of("fact age or 77", 0, 9), [(0, 9, 1, 0)])
        self.assertEqual(profile_of("if known age 1 0", 0, 9), [(0, 9, 0, 1)])
        self.assertEqual(profile_of("fact age or 77", 0, 9, [report(1, person="bob")]), [(0, 9, 1, 0)])

    def test_a_fact_for_which_the_rule_does_not_ask(self):
        self.assertEqual(profile_of("plus 3 fact kids", 0, 9, [report(4, "kids")]), [(0, 9, 0, 7)])
        self.assertEqual(profile_of("fact kids", 0, 9), [(0, 9, ("missing", "kids"))])
        self.assertEqual(profile_of("if below 1 2 3 fact age", 0, 9), [(0, 9, 0, 3)])

    def test_another_fact(self):
        book = book_of([enact("plus fact age fact kids"), report(100), report(3, "kids")])
        self.assertEqual(profile(book, QUESTION, "age", 0, 9), [(0, 9, 1, 3)])
        self.assertEqual(profile(book, QUESTION, "kids", 0, 9), [(0, 9, 1, 100)])
        self.assertEqual(profile(book, QUESTION, "debt", 0, 9), [(0, 9, 0, 103)])

    def test_what_is_struck_or_comes_later_plays_no_part(self):
        entries = [enact("plus fact kids fact age"), report(1, "kids"), report(2, "kids"), ("strike", 5, 2),
                   report(7, "kids", 6), report(8, came=6), enact("0", came=6), ("strike", 7, 1)]
        self.assertEqual(profile(book_of(entries), QUESTION, "age", 0, 9), [(0, 9, 1, 1)])
        early = ("ann", "base", 5, 4)
        self.assertEqual(profile(book_of(entries), early, "age", 0, 9), [(0, 9, 1, 2)])
        late = ("ann", "base", 5, 6)
        self.assertEqual(profile(book_of(entries), late, "age", 0, 9), [(0, 9, 0, 0)])

    def test_other_days_and_persons_play_no_part(self):
        entries = [enact("plus fact kids or 0 fact age"), report(1, "kids", span=(4, 5)),
                   report(2, "kids", span=(6, 7)), report(3, "kids", person="bob")]
        self.assertEqual(profile(book_of(entries), QUESTION, "age", 0, 9), [(0, 9, 1, 0)])
        self.assertEqual(profile(book_of(entries), ("ann", "base", 4, 5), "age", 0, 9), [(0, 9, 1, 1)])
        self.assertEqual(profile(book_of(entries), ("bob", "base", 4, 5), "age", 0, 9), [(0, 9, 1, 3)])

    def test_the_first_and_the_last_day(self):
        book = book_of([enact("fact age")])
        for day in [0, 9999]:
            for known in [0, 9999]:
                self.assertEqual(profile(book, ("ann", "base", day, known), "age", 0, 9), [(0, 9, 1, 0)])

    def test_facts_that_other_rules_ask_for(self):
        others = [enact("times 2 fact age", "more"), enact("if known age due more 0", "rest")]
        self.assertEqual(profile_of("plus due more due rest", 0, 9, others), [(0, 9, 4, 0)])


class RefusedTest(unittest.TestCase):
    def assertRefused(self, book, low, high):
        before = book.entries()
        with self.assertRaises(NotAllowed):
            profile(book, QUESTION, "age", low, high)
        self.assertEqual(book.entries(), before)

    def test_low_is_not_below_high(self):
        for low, high in [(0, 0), (5, 4), (-4, -5), (200, 0), (LARGEST, LARGEST), (LARGEST, -LARGEST)]:
            self.assertRefused(book_of([enact("1")]), low, high)

    def test_more_than_200_apart(self):
        for low, high in [(0, 201), (-100, 101), (-201, 0), (-LARGEST, LARGEST), (0, 10 ** 9)]:
            self.assertRefused(book_of([enact("1")]), low, high)

    def test_more_than_nine_digits(self):
        for low, high in [(LARGEST, LARGEST + 1), (LARGEST - 5, LARGEST + 1), (10 ** 9, 10 ** 9 + 1),
                          (-LARGEST - 1, -LARGEST), (-LARGEST - 1, 5 - LARGEST), (-10 ** 9 - 5, -10 ** 9)]:
            self.assertRefused(book_of([enact("1")]), low, high)

    def test_one_hundred_that_speak(self):
        book = book_of([enact("fact age")] + [report(1)] * 99)
        self.assertRefused(book, 0, 9)
        self.assertRefused(book_of([enact("1")] * 100), 0, 1)

    def test_one_less(self):
        for one in [report(1, span=(4, 5)), report(1, person="bob"), report(1, came=6), ("strike", 5, 1)]:
            book = book_of([enact("fact age")] + [report(1)] * 98 + [one])
            self.assertEqual(profile(book, QUESTION, "age", 0, 9), [(0, 9, 1, 0)])
        book = book_of([enact("fact age")] + [report(1)] * 98)
        self.assertEqual(profile(book, QUESTION, "age", 0, 9), [(0, 9, 1, 0)])
        # What came on the day itself speaks, too, and so does another fact.
        book = book_of([enact("fact age")] + [report(1)] * 98 + [report(1, "kids", 5)])
        self.assertRefused(book, 0, 9)


class CopiesTest(unittest.TestCase):
    def test_what_is_returned_is_new_and_nothing_is_modified(self):
        entries = [enact("if below fact age 3 fact kids fact age"), report(1)]
        book = book_of(entries)
        found = profile(book, QUESTION, "age", 0, 9)
        right = [(0, 3, ("missing", "kids")), (3, 9, 1, 0)]
        self.assertEqual([type(found), type(found[0]), type(found[0][2])], [list, tuple, tuple])
        self.assertEqual(found, right)
        found.clear()
        self.assertEqual(profile(book, QUESTION, "age", 0, 9), right)
        self.assertEqual(book.entries(), entries)
        self.assertEqual(decide(book, QUESTION)[0], ("missing", "kids"))

    def test_a_book_that_is_nearly_full_takes_the_hundredth_entry_behind_it(self):
        book = book_of([enact("fact age")] + [report(1)] * 98)
        profile(book, QUESTION, "age", 0, 200)
        book.enter(report(3))
        self.assertEqual(decide(book, QUESTION)[0], ("amount", 3))


class ManyBooksTest(unittest.TestCase):
    def test_many_books_in_a_second_way(self):
        lines, stops, slopes = 0, 0, {}
        for seed in range(400):
            source = random.Random(seed)
            entries = random_entries(source, source.choice([0, 4, 12]))
            question, fact = random_question(source), source.choice(FACTS)
            low = source.choice([-8, -2, 0, 1, 39, 10 ** 6])
            high = low + source.choice([1, 2, 5, 16])
            found = profile(book_of(entries), question, fact, low, high)
            decisions = [supposed(entries, question, fact, value) for value in range(low, high)]
            self.assertEqual(found, longest_runs(low, decisions), (seed, question, fact))
            lines += len([run for run in found if len(run) == 4])
            stops += len([run for run in found if len(run) == 3])
            slopes.update({(run[2] > 0) - (run[2] < 0): True for run in found if len(run) == 4})
        self.assertGreater(min(lines, stops), 100)
        self.assertEqual(sorted(slopes), [-1, 0, 1])


def supposed(entries, question, fact, value):
    """The decision if this were reported behind all that came by the day."""
    person, _, day, known = question
    early = [entry for entry in entries if entry[1] <= known]
    return decide_second(early + [("report", known, person, fact, value, (day, day + 1))], question)[0]


def line_of(low, at, part):
    """The run that these decisions make, or None if they make none."""
    first = low + at
    if len({decision[0] == "amount" for decision in part}) > 1:
        return None
    if part[0][0] != "amount":
        return (first, first + len(part), part[0]) if len(set(part)) == 1 else None
    amounts = [decision[1] for decision in part]
    slopes = [right - left for left, right in zip(amounts, amounts[1:])] or [0]
    if len(set(slopes)) > 1:
        return None
    return (first, first + len(part), slopes[0], amounts[0] - slopes[0] * first)


def longest_runs(low, decisions):
    """The runs, each found by trying the longest one first."""
    runs, at = [], 0
    while at < len(decisions):
        parts = [decisions[at:end] for end in range(len(decisions), at, -1)]
        runs.append([run for run in [line_of(low, at, part) for part in parts] if run is not None][0])
        at = runs[-1][1] - low
    return runs


if __name__ == "__main__":
    unittest.main()
