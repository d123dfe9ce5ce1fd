import random
import unittest
from itertools import combinations

from duewrits.books import book_of
from duewrits.decisions import decide
from duewrits.errors import NotAllowed
from duewrits.reasons import carries, reasons, speakers
from second_way import decide_second, random_entries, random_question, speaking

ALL = (0, 10000)
QUESTION = ("ann", "base", 5, 5)


def enact(text, rule="base", came=0, span=ALL):
    return ("enact", came, rule, text, span)


def report(value, fact="age", came=0, span=ALL, person="ann"):
    return ("report", came, person, fact, value, span)


def subsets(indexes):
    return [list(chosen) for many in range(len(indexes) + 1) for chosen in combinations(indexes, many)]


class SpeakersTest(unittest.TestCase):
    def assertSpeak(self, entries, indexes, question=QUESTION):
        self.assertEqual(speakers(book_of(entries), question), indexes)

    def test_none(self):
        self.assertSpeak([], [])
        self.assertSpeak([report(1, person="bob")], [])

    def test_reports_of_the_person_and_enactments(self):
        entries = [enact("fact age"), report(1), report(1, person="bob"), enact("1", "more"), report(1, "kids")]
        self.assertSpeak(entries, [0, 1, 3, 4])
        self.assertSpeak(entries, [0, 2, 3], ("bob", "base", 5, 5))
        self.assertSpeak(entries, [0, 3], ("base", "ann", 5, 5))

    def test_all_that_speak_and_not_the_last_ones_alone(self):
        self.assertSpeak([report(1), report(2), enact("1"), enact("2"), report(1)], [0, 1, 2, 3, 4])

    def test_what_stands_as_known_on_the_day(self):
        entries = [report(1, came=4), report(1, came=5), report(1, came=6), ("strike", 7, 1)]
        found = [speakers(book_of(entries), ("ann", "base", 0, known)) for known in range(3, 9)]
        self.assertEqual(found, [[], [0], [0, 1], [0, 1, 2], [0, 2], [0, 2]])

    def test_struck_on_the_day(self):
        entries = [enact("1"), report(1), ("strike", 5, 0), ("strike", 6, 1)]
        self.assertSpeak(entries, [0, 1], ("ann", "base", 5, 4))
        self.assertSpeak(entries, [1], ("ann", "base", 5, 5))
        self.assertSpeak(entries, [], ("ann", "base", 5, 6))

    def test_what_has_the_day(self):
        entries = [report(1, span=(4, 5)), enact("1", span=(5, 6)), report(1, span=(6, 7)), enact("1", span=(0, 6))]
        found = [speakers(book_of(entries), ("ann", "base", day, 0)) for day in range(3, 8)]
        self.assertEqual(found, [[3], [0, 3], [1, 3], [2], []])

    def test_as_many_as_there_are(self):
        self.assertSpeak([report(1)] * 100, list(range(100)))

    def test_it_is_new(self):
        book = book_of([enact("1")])
        speakers(book, QUESTION).clear()
        self.assertEqual(speakers(book, QUESTION), [0])


class ReasonsCase(unittest.TestCase):
    def assertReasons(self, entries, found, question=QUESTION):
        self.assertEqual(reasons(book_of(entries), question), found)
        self.check_in_a_second_way(entries, question)

    def check_in_a_second_way(self, entries, question):
        """Ask each set by the words of point 15, with the others struck."""
        book, heard = book_of(entries), speaking(entries, question)
        right = decide_second(entries, question)[0]
        decisions = [(kept, self.decided(entries, question, heard, kept)) for kept in subsets(heard)]
        carrying = []
        for chosen in subsets(heard):
            found = all([decision == right for kept, decision in decisions if set(chosen) <= set(kept)])
            self.assertIs(carries(book, question, chosen), found, (entries, question, chosen))
            if found:
                carrying.append(chosen)
        least = [chosen for chosen in carrying if not any([set(other) < set(chosen) for other in carrying])]
        self.assertEqual(reasons(book, question), least, (entries, question))

    def decided(self, entries, question, heard, kept):
        known = question[3]
        struck = [("strike", known, at) for at in heard if at not in kept]
        # Before the entries that come later; what came earlier keeps its index.
        early = [entry for entry in entries if entry[1] <= known]
        return decide_second(early + struck, question)[0]


class CarriesTest(ReasonsCase):
    def test_all_that_speak_carry_the_decision(self):
        for entries in [[], [enact("1")], [enact("fact age"), report(3)], [report(3)] * 8]:
            self.assertIs(carries(book_of(entries), QUESTION, list(range(len(entries)))), True)

    def test_what_is_needed(self):
        book = book_of([enact("plus fact age fact kids"), report(1), report(2, "kids"), report(3, "debt")])
        carrying = [chosen for chosen in subsets([0, 1, 2, 3]) if carries(book, QUESTION, chosen)]
        self.assertEqual(carrying, [[0, 1, 2], [0, 1, 2, 3]])

    def test_what_would_be_the_same_alone_may_be_different_with_others(self):
        # Without the last report the age is 2 if the second one is kept, and 1 without it.
        book = book_of([enact("fact age"), report(1), report(2), report(1)])
        self.assertEqual(decide(book, QUESTION)[0], ("amount", 1))
        self.assertFalse(carries(book, QUESTION, [0, 1]))
        self.assertTrue(carries(book, QUESTION, [0, 3]))
        self.assertTrue(carries(book, QUESTION, [0, 1, 3]))
        self.assertFalse(carries(book, QUESTION, [0, 2]))

    def test_a_stop_is_carried_too(self):
        book = book_of([enact("fact age"), report(1, "kids")])
        self.assertTrue(carries(book, QUESTION, [0]))
        self.assertFalse(carries(book, QUESTION, []))
        self.assertFalse(carries(book, QUESTION, [1]))

    def test_nothing_is_modified(self):
        entries = [enact("fact age"), report(1), report(1)]
        book, chosen = book_of(entries), [0, 2]
        self.assertTrue(carries(book, QUESTION, chosen))
        self.assertEqual(chosen, [0, 2])
        self.assertEqual(book.entries(), entries)


class ReasonsTest(ReasonsCase):
    def test_none_speaks(self):
        self.assertReasons([], [[]])
        self.assertReasons([report(1, person="bob")], [[]])

    def test_one_speaks(self):
        self.assertReasons([enact("1")], [[0]])
        self.assertReasons([report(1)], [[]])
        self.assertReasons([enact("1", "more")], [[]])
        self.assertReasons([report(1, person="bob"), enact("1")], [[1]])

    def test_all_are_needed(self):
        self.assertReasons([enact("plus fact age fact kids"), report(1), report(2, "kids")], [[0, 1, 2]])

    def test_one_of_several_is_enough(self):
        entries = [enact("fact age"), report(1), report(1), report(1)]
        self.assertReasons(entries, [[0, 1], [0, 2], [0, 3]])
        self.assertReasons([enact("1"), enact("1"), enact("plus 0 1")], [[0], [1], [2]])
        self.assertReasons([enact("fact age or 3"), report(3)], [[0]])

    def test_what_covers_another(self):
        self.assertReasons([enact("fact age"), report(1), report(2)], [[0, 2]])
        self.assertReasons([enact("fact age"), report(2), report(1), report(2)], [[0, 3]])
        self.assertReasons([enact("fact age"), report(2), report(2), report(1), report(2), report(2)], [[0, 4], [0, 5]])

    def test_the_order_is_by_length_then_by_the_first_number_that_differs(self):
        entries = [report(0, "kids"), enact("times fact age fact kids"), report(5), report(0), report(7, "debt")]
        self.assertReasons(entries, [[0, 1, 2], [0, 1, 3]])
        entries = [enact("if known age fact age fact kids or 1"), report(1), report(1, "kids"), report(1)]
        self.assertReasons(entries, [[0]])
        entries = [enact("if known age 1 due more"), report(1), enact("fact kids", "more"), report(1, "kids")]
        self.assertReasons(entries, [[0, 1], [0, 2, 3]])
        entries = [report(1, "kids"), enact("if known debt 1 times fact age fact kids"), report(1), report(0, "debt"),
                   enact("1"), enact("if known debt 1 times fact age fact kids")]
        self.assertReasons(entries, [[1, 3], [3, 4], [3, 5], [0, 1, 2], [0, 2, 4], [0, 2, 5]])

    def test_the_reasons_of_a_stop(self):
        self.assertReasons([enact("fact age"), report(1, "kids")], [[0]])
        self.assertReasons([enact("due more"), enact("due base", "more")], [[0, 1]])
        self.assertReasons([enact("due none"), enact("fact age", "more")], [[0]])
        self.assertReasons([enact("plus 1 times 100000000 fact age"), report(10000000)], [[0, 1]])

    def test_what_is_struck_or_comes_later_or_does_not_have_the_day_plays_no_part(self):
        entries = [enact("fact age"), report(1), report(2), report(3, span=(6, 9)), ("strike", 5, 2), report(4, came=6)]
        self.assertReasons(entries, [[0, 1]])
        self.assertReasons(entries, [[0, 2]], ("ann", "base", 5, 0))
        self.assertReasons(entries, [[0, 5]], ("ann", "base", 6, 6))

    def test_eight_speak(self):
        entries = [enact("fact age")] + [report(1)] * 7
        self.assertReasons(entries, [[0, at] for at in range(1, 8)])
        entries = [enact("plus fact age plus fact a plus fact b plus fact c plus fact d plus fact e fact f")]
        entries += [report(1, fact) for fact in ["age", "a", "b", "c", "d", "e", "f"]]
        self.assertReasons(entries, [[0, 1, 2, 3, 4, 5, 6, 7]])
        # Those who do not speak are no hindrance.
        more = entries + [report(1, person="bob")] * 20 + [report(1, span=(6, 9))] * 20 + [report(1, came=6)] * 20
        self.assertReasons(more, [[0, 1, 2, 3, 4, 5, 6, 7]])

    def test_nine_speak(self):
        for many in [9, 10, 100]:
            book = book_of([enact("1")] + [report(1)] * (many - 1))
            with self.assertRaises(NotAllowed):
                reasons(book, QUESTION)
            for chosen in [[], [0], list(range(many))]:
                with self.assertRaises(NotAllowed):
                    carries(book, QUESTION, chosen)
            self.assertEqual(speakers(book, QUESTION), list(range(many)))
        # Entries that play no part in the decision speak as well.
        book = book_of([enact("1")] + [enact("2", "more")] * 8)
        with self.assertRaises(NotAllowed):
            reasons(book, QUESTION)

    def test_one_of_nine_is_struck(self):
        book = book_of([enact("1")] + [report(1)] * 8 + [("strike", 5, 8)])
        self.assertEqual(reasons(book, QUESTION), [[0]])
        with self.assertRaises(NotAllowed):
            reasons(book, ("ann", "base", 5, 4))

    def test_what_is_returned_is_new(self):
        entries = [enact("1"), enact("1")]
        book = book_of(entries)
        found = reasons(book, QUESTION)
        found[0].append(7)
        found[1].clear()
        found.pop()
        self.assertEqual(reasons(book, QUESTION), [[0], [1]])
        self.assertEqual(book.entries(), entries)

    def test_the_kinds_of_what_is_returned(self):
        found = reasons(book_of([enact("fact age"), report(1)]), QUESTION)
        self.assertEqual([type(found), type(found[0]), type(found[0][0])], [list, list, int])


class ManyBooksTest(ReasonsCase):
    def test_many_books_in_a_second_way(self):
        asked = 0
        for seed in range(600):
            source = random.Random(seed)
            entries = random_entries(source, source.choice([4, 8, 12]))
            question = random_question(source)
            if len(speaking(entries, question)) <= 6:
                asked += 1
                self.check_in_a_second_way(entries, question)
        self.assertGreater(asked, 100)


if __name__ == "__main__":
    unittest.main()
