import random
import unittest
from itertools import permutations

from duewrits.books import Book, book_of
from duewrits.decisions import decide
from duewrits.errors import BadText, NotAllowed
from duewrits.offices import Office

ALL = (0, 10000)


def enact(came=0, text="fact age", rule="base", span=ALL):
    return ("enact", came, rule, text, span)


def report(came=0, value=1, person="ann", fact="age", span=ALL):
    return ("report", came, person, fact, value, span)


def strike(came, stamp):
    return ("strike", came, stamp)


def letter(came, office, number, entry):
    """A letter of this stamp with an entry of this day."""
    return ((came, office, number), entry[:1] + (came,) + entry[2:])


def office_with(letters, name="x"):
    office = Office(name)
    office.take(letters)
    return office


class OfficeCase(unittest.TestCase):
    def assertBook(self, office, entries, stamps):
        self.assertEqual(office.book().entries(), entries)
        self.assertEqual(office.stamps(), stamps)

    def assertUnwritten(self, office, entry, error=NotAllowed):
        before = office.letters()
        with self.assertRaises(error):
            office.write(entry)
        self.assertEqual(office.letters(), before)

    def assertUntaken(self, office, letters):
        before, passed = office.letters(), list(letters)
        with self.assertRaises(NotAllowed):
            office.take(letters)
        self.assertEqual(office.letters(), before)
        self.assertEqual(letters, passed)


class NewOfficeTest(OfficeCase):
    def test_it_has_a_name_and_no_letters(self):
        office = Office("x")
        self.assertEqual(office.name, "x")
        self.assertEqual(office.letters(), [])
        self.assertBook(office, [], [])
        self.assertIs(type(office.book()), Book)

    def test_offices_share_nothing(self):
        first, second = Office("x"), Office("y")
        first.write(report())
        self.assertEqual(second.letters(), [])
        self.assertEqual((first.name, second.name), ("x", "y"))


class WriteTest(OfficeCase):
    def test_each_kind_of_entry(self):
        office = Office("x")
        self.assertEqual(office.write(enact(3)), (3, "x", 0))
        self.assertEqual(office.write(report(3)), (3, "x", 1))
        self.assertEqual(office.write(strike(5, (3, "x", 1))), (5, "x", 2))
        letters = [((3, "x", 0), enact(3)), ((3, "x", 1), report(3)), ((5, "x", 2), strike(5, (3, "x", 1)))]
        self.assertEqual(office.letters(), letters)
        self.assertBook(office, [enact(3), report(3), strike(5, 1)], [(3, "x", 0), (3, "x", 1), (5, "x", 2)])

    def test_the_number_is_how_many_it_had_written(self):
        office = Office("x")
        office.take([letter(9, "a", 7, report()), letter(0, "y", 3, report())])
        self.assertEqual(office.write(report(4)), (4, "x", 0))
        office.take([letter(9, "z", 30, report())])
        self.assertEqual(office.write(report(4)), (4, "x", 1))
        self.assertEqual(office.write(report(9)), (9, "x", 2))

    def test_the_day(self):
        for came in [-1, -10000, 10000, 10001]:
            self.assertUnwritten(Office("x"), report(came))
            self.assertUnwritten(Office("x"), enact(came))
        for came in [0, 9999]:
            self.assertEqual(Office("x").write(report(came)), (came, "x", 0))
        office = Office("x")
        office.write(report(3))
        self.assertUnwritten(office, strike(10000, (3, "x", 0)))
        self.assertUnwritten(office, strike(-1, (3, "x", 0)))

    def test_the_order_of_the_days(self):
        office = Office("x")
        office.write(report(5))
        for entry in [report(4), enact(0), strike(4, (5, "x", 0))]:
            self.assertUnwritten(office, entry)
        self.assertEqual(office.write(enact(5)), (5, "x", 1))
        self.assertEqual(office.write(strike(6, (5, "x", 1))), (6, "x", 2))
        self.assertUnwritten(office, report(5))

    def test_the_days_of_other_offices_play_no_part(self):
        office = office_with([letter(9, "a", 0, report()), letter(8, "z", 0, report())])
        self.assertEqual(office.write(report(0)), (0, "x", 0))
        self.assertEqual(office.write(report(3)), (3, "x", 1))
        self.assertUnwritten(office, report(2))

    def test_wrong_reports(self):
        for entry in [report(person="or"), report(person=""), report(fact="a b"), report(fact="age2age2age2a"),
                      report(value=10 ** 9), report(value=-10 ** 9), report(span=(5, 5)), report(span=(6, 5)),
                      report(span=(-1, 5)), report(span=(0, 10001)), report(span=(10000, 10001))]:
            self.assertUnwritten(Office("x"), entry)

    def test_wrong_enactments(self):
        for entry in [enact(rule="2b"), enact(rule="due"), enact(span=(5, 5)), enact(span=(0, 10001)),
                      enact(text=" ".join(["1"] * 41))]:
            self.assertUnwritten(Office("x"), entry)
        for text, at in [("", 0), ("plus 1", 2), ("plus 1 2 3", 3), ("fact or", 1)]:
            with self.assertRaises(BadText) as caught:
                Office("x").write(enact(text=text))
            self.assertEqual(caught.exception.at, at)

    def test_what_is_refused_does_not_count(self):
        office = Office("x")
        office.write(report(3))
        self.assertUnwritten(office, report(9, 10 ** 9))
        self.assertUnwritten(office, enact(9, "plus"), BadText)
        self.assertUnwritten(office, strike(9, (3, "y", 0)))
        self.assertEqual(office.write(report(3)), (3, "x", 1))

    def test_the_order_of_the_errors(self):
        office = Office("x")
        office.write(report(5))
        self.assertUnwritten(office, enact(4, "plus"), NotAllowed)
        self.assertUnwritten(office, enact(10000, "plus"), NotAllowed)
        self.assertUnwritten(office, enact(5, "plus", "or"), NotAllowed)
        self.assertUnwritten(office, enact(5, "plus", span=(5, 5)), BadText)
        for _ in range(59):
            office.write(report(5))
        self.assertUnwritten(office, enact(5, "plus"), NotAllowed)

    def test_the_sixtieth_letter_and_the_one_behind_it(self):
        office = Office("x")
        for number in range(60):
            self.assertEqual(office.write(report(number)), (number, "x", number))
        for entry in [report(60), enact(60), strike(60, (0, "x", 0))]:
            self.assertUnwritten(office, entry)
        self.assertEqual(len(office.book().entries()), 60)

    def test_the_letters_of_others_count(self):
        office = office_with([letter(at, "y", at, report()) for at in range(59)])
        office.write(report())
        self.assertUnwritten(office, report())
        self.assertUnwritten(office_with(office.letters(), "z"), report())


class StrikesTest(OfficeCase):
    def test_what_is_not_there(self):
        office = office_with([letter(3, "y", 0, report())])
        office.write(report(3))
        for stamp in [(3, "y", 1), (2, "y", 0), (3, "z", 0), (3, "x", 1), (4, "x", 0)]:
            self.assertUnwritten(office, strike(9, stamp))
        self.assertUnwritten(Office("x"), strike(9, (9, "x", 0)))

    def test_a_strike_of_a_strike(self):
        office = Office("x")
        first = office.write(report(3))
        second = office.write(strike(4, first))
        self.assertUnwritten(office, strike(5, second))
        other = office_with([letter(1, "y", 0, strike(1, (0, "y", 9)))])
        self.assertUnwritten(other, strike(5, (1, "y", 0)))

    def test_what_is_not_before_the_strike(self):
        # The strike gets the stamp (5, "m", 0).
        for stamp in [(6, "a", 0), (5, "n", 0), (9, "z", 3)]:
            office = office_with([(stamp, report(stamp[0]))], "m")
            self.assertUnwritten(office, strike(5, stamp))
        for stamp in [(4, "z", 9), (5, "a", 9), (0, "n", 0)]:
            office = office_with([(stamp, report(stamp[0]))], "m")
            self.assertEqual(office.write(strike(5, stamp)), (5, "m", 0))
            self.assertBook(office, [report(stamp[0]), strike(5, 0)], [stamp, (5, "m", 0)])

    def test_the_number_puts_it_behind_its_own_letters(self):
        office = Office("x")
        first = office.write(enact(5))
        self.assertEqual(office.write(strike(5, first)), (5, "x", 1))
        self.assertBook(office, [enact(5), strike(5, 0)], [(5, "x", 0), (5, "x", 1)])

    def test_what_has_been_struck_may_be_struck_again(self):
        office = Office("x")
        first = office.write(report(3))
        office.write(strike(4, first))
        self.assertEqual(office.write(strike(5, first)), (5, "x", 2))
        self.assertEqual(len(office.letters()), 3)
        self.assertBook(office, [report(3), strike(4, 0)], [(3, "x", 0), (4, "x", 1)])

    def test_letters_of_others(self):
        first = Office("a")
        stamp = first.write(report(3))
        second = office_with(first.letters(), "b")
        self.assertEqual(second.write(strike(7, stamp)), (7, "b", 0))
        first.take(second.letters())
        self.assertBook(first, [report(3), strike(7, 0)], [(3, "a", 0), (7, "b", 0)])


class TakeTest(OfficeCase):
    def test_it_takes_what_it_does_not_have(self):
        office = office_with([letter(3, "y", 0, report())])
        office.take([letter(3, "y", 0, report()), letter(1, "z", 4, enact())])
        office.take([])
        self.assertEqual(office.letters(), [letter(1, "z", 4, enact()), letter(3, "y", 0, report())])

    def test_the_order_of_the_stamps(self):
        stamps = [(0, "z", 9), (2, "a", 10), (2, "a1", 0), (2, "aa", 0), (2, "b", 2), (2, "b", 10), (10, "a", 0)]
        letters = [(stamp, report(stamp[0], at)) for at, stamp in enumerate(stamps)]
        for seed in range(20):
            mixed = list(letters)
            random.Random(seed).shuffle(mixed)
            office = office_with(mixed)
            self.assertEqual(office.letters(), letters)
            self.assertBook(office, [entry for _, entry in letters], stamps)

    def test_one_by_one_or_at_once_or_doubled(self):
        letters = [letter(3, "y", 0, report()), letter(1, "z", 4, enact()), letter(4, "z", 5, strike(4, (3, "y", 0)))]
        entries, stamps = [enact(1), report(3), strike(4, 1)], [(1, "z", 4), (3, "y", 0), (4, "z", 5)]
        for mixed in permutations(letters * 2):
            self.assertBook(office_with(list(mixed)), entries, stamps)
            office = Office("x")
            for one in mixed:
                office.take([one])
            self.assertBook(office, entries, stamps)

    def test_letters_that_clash(self):
        office = office_with([letter(3, "y", 0, report())])
        for entry in [report(3, 2), report(3, person="bob"), enact(3), strike(3, (1, "y", 1)),
                      report(3, span=(0, 9999))]:
            self.assertUntaken(office, [((3, "y", 0), entry)])
            self.assertUntaken(office, [letter(4, "y", 1, report()), ((3, "y", 0), entry)])
            self.assertUntaken(office, [((3, "y", 0), entry), letter(4, "y", 1, report())])

    def test_letters_of_one_list_that_clash(self):
        for office in [Office("x"), office_with([letter(0, "y", 1, report())])]:
            first, second = letter(3, "y", 0, report()), letter(3, "y", 0, report(3, 2))
            self.assertUntaken(office, [first, second])
            self.assertUntaken(office, [second, letter(4, "y", 1, enact()), first])
            self.assertUntaken(office, [first, first, second])

    def test_a_clash_with_its_own(self):
        office = Office("x")
        office.write(report(3))
        self.assertUntaken(office, [letter(3, "x", 0, report(3, 2))])
        office.take([letter(3, "x", 0, report(3))])
        self.assertEqual(len(office.letters()), 1)

    def test_texts_that_differ_in_their_spaces_are_other_entries(self):
        office = office_with([letter(3, "y", 0, enact(3, "1"))])
        self.assertUntaken(office, [letter(3, "y", 0, enact(3, " 1"))])

    def test_the_sixtieth_letter_and_the_one_behind_it(self):
        letters = [letter(at, "y", at, report()) for at in range(61)]
        self.assertUntaken(Office("x"), letters)
        office = office_with(letters[:60])
        self.assertEqual(len(office.letters()), 60)
        self.assertUntaken(office, letters[60:])
        self.assertUntaken(office, letters)
        office.take(letters[:60])
        self.assertEqual(len(office.letters()), 60)

    def test_letters_that_it_has_do_not_count_twice(self):
        letters = [letter(at, "y", at, report()) for at in range(60)]
        office = office_with(letters[:40])
        office.take(letters[20:] + letters)
        self.assertEqual(office.letters(), letters)
        self.assertEqual(office_with(letters * 3).letters(), letters)

    def test_its_own_count(self):
        office = Office("x")
        office.write(report(3))
        self.assertUntaken(office, [letter(at, "y", at, report()) for at in range(60)])
        office.take([letter(at, "y", at, report()) for at in range(59)])
        self.assertEqual(len(office.book().entries()), 60)


class SetUpAnewTest(OfficeCase):
    def test_it_goes_on_behind_the_greatest_number(self):
        first = Office("a")
        for came in [3, 3, 4]:
            first.write(report(came))
        second = office_with(first.letters(), "b")
        anew = office_with(second.letters(), "a")
        self.assertEqual(anew.write(report(4)), (4, "a", 3))
        self.assertEqual(anew.write(report(8)), (8, "a", 4))
        second.take(anew.letters())
        self.assertEqual(second.stamps(), [(3, "a", 0), (3, "a", 1), (4, "a", 2), (4, "a", 3), (8, "a", 4)])

    def test_it_may_not_have_them_all(self):
        anew = office_with([letter(3, "a", 1, report()), letter(6, "a", 4, report()), letter(9, "b", 9, report())], "a")
        self.assertEqual(anew.write(report(6)), (6, "a", 5))
        anew.take([letter(3, "a", 2, report())])
        self.assertEqual(anew.write(report(6)), (6, "a", 6))

    def test_the_days_go_on_too(self):
        anew = office_with([letter(3, "a", 1, report()), letter(6, "a", 4, report()), letter(9, "b", 9, report())], "a")
        self.assertUnwritten(anew, report(5))
        self.assertUnwritten(anew, strike(5, (3, "a", 1)))
        self.assertEqual(anew.write(strike(6, (6, "a", 4))), (6, "a", 5))

    def test_it_may_come_to_know_of_them_when_it_has_written(self):
        anew = Office("a")
        self.assertEqual(anew.write(report(7)), (7, "a", 0))
        anew.take([letter(3, "a", 0, report()), letter(4, "a", 1, report())])
        self.assertUnwritten(anew, report(6))
        self.assertEqual(anew.write(report(7)), (7, "a", 2))
        self.assertEqual(anew.stamps(), [(3, "a", 0), (4, "a", 1), (7, "a", 0), (7, "a", 2)])


class BookTest(OfficeCase):
    def test_strikes_of_what_is_not_there_are_left_out(self):
        lost = letter(5, "y", 1, strike(5, (3, "y", 0)))
        office = office_with([lost, letter(6, "z", 0, report())])
        self.assertBook(office, [report(6)], [(6, "z", 0)])
        self.assertEqual(len(office.letters()), 2)
        # When the letter comes after all, the strike strikes.
        office.take([letter(3, "y", 0, enact())])
        self.assertBook(office, [enact(3), strike(5, 0), report(6)], [(3, "y", 0), (5, "y", 1), (6, "z", 0)])

    def test_strikes_that_come_before_what_they_strike_are_left_out(self):
        for stamp in [(5, "y", 2), (5, "z", 0), (6, "a", 0)]:
            office = office_with([letter(5, "y", 1, strike(5, stamp)), (stamp, report(stamp[0]))])
            self.assertBook(office, [report(stamp[0])], [stamp])
        for stamp in [(5, "y", 0), (5, "a", 7), (4, "z", 9)]:
            office = office_with([letter(5, "y", 1, strike(5, stamp)), (stamp, report(stamp[0]))])
            self.assertBook(office, [report(stamp[0]), strike(5, 0)], [stamp, (5, "y", 1)])

    def test_a_strike_of_itself_is_left_out(self):
        self.assertBook(office_with([letter(5, "y", 1, strike(5, (5, "y", 1)))]), [], [])

    def test_strikes_of_strikes_are_left_out(self):
        letters = [letter(3, "y", 0, report()), letter(4, "y", 1, strike(4, (3, "y", 0))),
                   letter(5, "y", 2, strike(5, (4, "y", 1)))]
        self.assertBook(office_with(letters), [report(3), strike(4, 0)], [(3, "y", 0), (4, "y", 1)])
        # Also of a strike that is left out itself.
        self.assertBook(office_with(letters[1:]), [], [])

    def test_second_strikes_are_left_out(self):
        letters = [letter(3, "y", 0, report()), letter(5, "y", 1, strike(5, (3, "y", 0))),
                   letter(4, "z", 0, strike(4, (3, "y", 0))), letter(5, "a", 0, strike(5, (3, "y", 0)))]
        for mixed in permutations(letters):
            self.assertBook(office_with(list(mixed)), [report(3), strike(4, 0)], [(3, "y", 0), (4, "z", 0)])
        # Without the one that comes first in the order of the stamps, the next one strikes.
        mixed = [letters[0], letters[1], letters[3]]
        self.assertBook(office_with(mixed), [report(3), strike(5, 0)], [(3, "y", 0), (5, "a", 0)])

    def test_an_earlier_strike_that_is_left_out_itself_strikes_nothing(self):
        # The strike of day 3 has a stamp before that of what it strikes.
        letters = [letter(4, "y", 0, report()), letter(3, "z", 0, strike(3, (4, "y", 0))),
                   letter(6, "a", 0, strike(6, (4, "y", 0)))]
        self.assertBook(office_with(letters), [report(4), strike(6, 0)], [(4, "y", 0), (6, "a", 0)])

    def test_strikes_have_the_index_in_the_book(self):
        letters = [letter(0, "y", 0, strike(0, (9, "y", 9))), letter(1, "y", 1, enact()), letter(2, "z", 0, report()),
                   letter(3, "a", 0, strike(3, (2, "z", 0))), letter(3, "b", 0, strike(3, (2, "z", 0))),
                   letter(4, "a", 1, report()), letter(5, "a", 2, strike(5, (4, "a", 1))),
                   letter(6, "y", 2, strike(6, (1, "y", 1)))]
        entries = [enact(1), report(2), strike(3, 1), report(4), strike(5, 3), strike(6, 0)]
        stamps = [(1, "y", 1), (2, "z", 0), (3, "a", 0), (4, "a", 1), (5, "a", 2), (6, "y", 2)]
        self.assertBook(office_with(letters), entries, stamps)

    def test_the_book_decides(self):
        first, second = Office("a"), Office("b")
        first.write(enact(1))
        wrong = second.write(report(2, 30))
        first.take(second.letters())
        first.write(strike(5, wrong))
        first.write(report(5, 40))
        second.take(first.letters())
        for office in [first, second]:
            amounts = [decide(office.book(), ("ann", "base", 7, known))[0] for known in [0, 1, 4, 5]]
            right = [("none", "base"), ("missing", "age"), ("amount", 30), ("amount", 40)]
            self.assertEqual(amounts, right)


class CopiesTest(OfficeCase):
    def test_what_is_returned_is_new(self):
        office = office_with([letter(3, "y", 0, report()), letter(4, "y", 1, strike(4, (3, "y", 0)))])
        office.letters().clear()
        office.stamps().append((5, "y", 2))
        self.assertBook(office, [report(3), strike(4, 0)], [(3, "y", 0), (4, "y", 1)])
        self.assertEqual(len(office.letters()), 2)
        self.assertEqual([type(office.letters()), type(office.stamps())], [list, list])
        self.assertEqual([type(one) for one in office.letters()[0]], [tuple, tuple])

    def test_a_book_is_new(self):
        office = office_with([letter(3, "y", 0, report())])
        book = office.book()
        book.enter(strike(4, 0))
        self.assertBook(office, [report(3)], [(3, "y", 0)])
        office.write(report(5))
        self.assertEqual(len(book.entries()), 2)
        self.assertEqual(book.entries()[1], strike(4, 0))

    def test_what_is_passed_is_as_it_was(self):
        letters = [letter(4, "y", 1, enact()), letter(3, "y", 0, report()), letter(3, "y", 0, report())]
        before = list(letters)
        office = office_with(letters)
        self.assertEqual(letters, before)
        letters.clear()
        self.assertEqual(len(office.letters()), 2)
        other = office_with(office.letters(), "z")
        other.write(report(9))
        self.assertEqual(len(office.letters()), 2)


def book_second(letters):
    """The book and its stamps by the words of point 20, from the letters in any order."""
    ordered = sorted(sorted(sorted(dict(letters), key=lambda at: at[2]), key=lambda at: at[1]), key=lambda at: at[0])
    entries = dict(letters)
    kept = []
    for at, stamp in enumerate(ordered):
        entry = entries[stamp]
        if entry[0] == "strike":
            known = entry[2] in ordered[:at] and entries[entry[2]][0] != "strike"
            struck = [entries[other][2] for other in kept if entries[other][0] == "strike"]
            if not known or entry[2] in struck:
                continue
        kept.append(stamp)
    book = []
    for stamp in kept:
        entry = entries[stamp]
        book.append(entry[:2] + (kept.index(entry[2]),) if entry[0] == "strike" else entry)
    return book, kept


class ManyLettersTest(OfficeCase):
    def random_letters(self, source):
        letters = {}
        for _ in range(source.randrange(1, 15)):
            stamp = (source.randrange(4), source.choice("abc"), source.randrange(3))
            kind = source.choice(["report", "enact", "strike", "strike"])
            entry = {"report": report(stamp[0], source.randrange(3)), "enact": enact(stamp[0])}.get(kind)
            if kind == "strike":
                struck = (source.randrange(4), source.choice("abc"), source.randrange(3))
                entry = strike(stamp[0], source.choice(sorted(letters) + [struck]))
            letters.setdefault(stamp, entry)
        return list(letters.items())

    def test_many_letters_in_a_second_way(self):
        for seed in range(500):
            source = random.Random(seed)
            letters = self.random_letters(source)
            self.assertBook(office_with(letters), *book_second(letters))

    def test_the_same_letters_the_same_book(self):
        for seed in range(200):
            source = random.Random(seed)
            letters = self.random_letters(source)
            right = office_with(letters)
            mixed = letters + [source.choice(letters) for _ in range(5)]
            source.shuffle(mixed)
            office = Office("y")
            while mixed:
                many = source.randrange(1, 4)
                office.take(mixed[:many])
                mixed = mixed[many:]
            self.assertEqual(office.letters(), right.letters())
            self.assertBook(office, right.book().entries(), right.stamps())

    def test_offices_that_write_and_lose_letters(self):
        for seed in range(60):
            source = random.Random(seed)
            offices = [Office(name) for name in ["a", "b", "c"]]
            written = []
            for came in range(12):
                office = source.choice(offices)
                entry = source.choice([report(came, source.randrange(5)), enact(came)])
                targets = [stamp for stamp, told in office.letters() if told[0] != "strike" and stamp[0] < came]
                if targets and source.random() < 0.4:
                    entry = strike(came, source.choice(targets))
                written.append((office.write(entry), entry))
                giver, taker = source.choice(offices), source.choice(offices)
                before = taker.letters()
                taker.take([one for one in giver.letters() if source.random() < 0.5])
                self.assertLessEqual(set(before), set(taker.letters()))
            for office in offices:
                self.assertEqual(book_of(office.book().entries()).entries(), office.book().entries())
                office.take(written)
            for office in offices:
                self.assertBook(office, *book_second(written))


if __name__ == "__main__":
    unittest.main()
