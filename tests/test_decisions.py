import random
import sys
import unittest

from duewrits.books import book_of, fact_at, rule_at
from duewrits.decisions import decide, judge
from duewrits.errors import WritError
from second_way import decide_second, random_entries, random_question

ALL = (0, 10000)
LARGEST = 10 ** 15
# Amounts at the limit, in as few words as it takes.
AT_LIMIT = "times 100000000 10000000"
AT_LOWEST = "times -100000000 10000000"
FACTS = {"age": 40, "kids": 3, "debt": -7, "nil": 0}


def enact(rule, text, came=0, span=ALL):
    return ("enact", came, rule, text, span)


def report(fact, value, came=0, span=ALL, person="ann"):
    return ("report", came, person, fact, value, span)


def rules_book(rules, facts=FACTS):
    """A book of rules and of ann's facts; the rules have the first indexes."""
    entries = [enact(rule, text) for rule, text in rules.items()]
    return book_of(entries + [report(fact, value) for fact, value in facts.items()])


def ask(book, rule="base", person="ann", day=5, known=5):
    return decide(book, (person, rule, day, known))


def names(dossier):
    return [entry[:2] for entry in dossier]


class DecisionsCase(unittest.TestCase):
    def assertAmount(self, text, amount, **more):
        decision, _ = ask(rules_book({"base": text, **more}))
        self.assertEqual(decision, ("amount", amount), text)

    def assertStops(self, text, decision, looked_up=None, **more):
        found, dossier = ask(rules_book({"base": text, **more}))
        self.assertEqual(found, decision, text)
        if looked_up is not None:
            self.assertEqual(names(dossier), [("rule", "base")] + looked_up, text)

    def assertLooksUp(self, text, words, **more):
        """The facts (as `age`) and the rules (as `due base`) that the text of base looks up."""
        _, dossier = ask(rules_book({"base": text, **more}))
        wanted = [("rule", word[4:]) if word[:4] == "due " else ("fact", word) for word in words]
        self.assertEqual(names(dossier), [("rule", "base")] + wanted, text)


class AmountsTest(DecisionsCase):
    def test_the_example_of_the_interface(self):
        book = book_of([enact("base", "plus 10 fact age or 0", 3), report("age", 40, 5)])
        decided = decide(book, ("ann", "base", 1, 4))
        self.assertEqual(decided, (("amount", 10), [("rule", "base", 0), ("fact", "age", None)]))
        decided = decide(book, ("ann", "base", 1, 5))
        self.assertEqual(decided, (("amount", 50), [("rule", "base", 0), ("fact", "age", 1)]))

    def test_each_form_of_an_amount(self):
        wanted = {
            "0": 0, "-3": -3, "999999999": 999999999, "fact age": 40, "fact debt": -7, "fact nil": 0,
            "fact age or 5": 40, "fact nil or 5": 0, "fact none or 5": 5, "fact none or fact kids": 3,
            "plus 5 fact age": 45, "plus 5 fact debt": -2, "minus 5 fact age": -35, "minus fact age 5": 35,
            "minus 5 fact debt": 12, "times 5 fact age": 200, "times fact debt fact debt": 49, "times 0 fact age": 0,
            "least 5 fact age": 5, "least fact age 5": 5, "least 5 fact debt": -7, "least 5 5": 5,
            "most 5 fact age": 40, "most fact age 5": 40, "most 5 fact debt": 5, "most 5 5": 5,
        }
        for text, amount in wanted.items():
            self.assertAmount(text, amount)

    def test_percent_rounds_down(self):
        wanted = {
            "percent 50 40": 20, "percent 100 fact age": 40, "percent 0 fact age": 0, "percent 1000 fact debt": -70,
            "percent 33 10": 3, "percent 99 1": 0, "percent 50 3": 1, "percent 1 100": 1, "percent 1 99": 0,
            "percent 1 -1": -1, "percent 50 -3": -2, "percent 33 -10": -4, "percent 99 -1": -1, "percent 1 -100": -1,
            "percent 1 -101": -2, "percent 0 -5": 0, "percent 50 percent 50 -1": -1,
        }
        for text, amount in wanted.items():
            self.assertAmount(text, amount)

    def test_each_form_of_a_condition(self):
        wanted = {
            "below 1 2": 1, "below 2 2": 0, "below 3 2": 0, "below -3 -2": 1, "below fact debt fact nil": 1,
            "same 2 2": 1, "same 1 2": 0, "same 2 1": 0, "same fact age 40": 1, "same fact nil 0": 1,
            "known age": 1, "known nil": 1, "known none": 0, "not known age": 0, "not known none": 1,
            "not not known age": 1, "not not not known age": 0,
            "both known age known kids": 1, "both known age known none": 0, "both known none known age": 0,
            "both known none known none": 0, "either known age known kids": 1, "either known age known none": 1,
            "either known none known age": 1, "either known none known none": 0,
            "not both known age known none": 1, "both not known none not known none": 1,
        }
        for condition, holds in wanted.items():
            self.assertAmount("if " + condition + " 1 0", holds)

    def test_due_is_the_amount_for_the_same_person_and_day(self):
        entries = [enact("base", "plus due more 1"), enact("more", "fact age", 0, (0, 8)),
                   enact("more", "5", 0, (8, 10)), report("age", 40), report("age", 30, 0, ALL, "bob")]
        book = book_of(entries)
        self.assertEqual(ask(book)[0], ("amount", 41))
        self.assertEqual(ask(book, person="bob")[0], ("amount", 31))
        self.assertEqual(ask(book, day=7)[0], ("amount", 41))
        self.assertEqual(ask(book, day=8)[0], ("amount", 6))
        self.assertEqual(ask(book, day=10)[0], ("none", "more"))

    def test_names_of_persons_facts_and_rules_are_apart(self):
        book = book_of([enact("ann", "plus fact ann due base"), enact("base", "fact base"),
                        report("ann", 1), report("base", 20)])
        self.assertEqual(ask(book, "ann"), (("amount", 21), [
            ("rule", "ann", 0), ("fact", "ann", 2), ("rule", "base", 1), ("fact", "base", 3)]))

    def test_the_kinds_of_what_is_returned(self):
        decided = ask(rules_book({"base": "plus fact age fact none or 0"}))
        self.assertIs(type(decided), tuple)
        self.assertIs(type(decided[0]), tuple)
        self.assertIs(type(decided[0][1]), int)
        self.assertIs(type(decided[1]), list)
        self.assertEqual([type(entry) for entry in decided[1]], [tuple] * 3)


class TwoDatesTest(DecisionsCase):
    def test_what_the_office_knew_on_each_day(self):
        book = book_of([enact("base", "fact age or 0", 2), report("age", 40, 3, (0, 10)), report("age", 50, 5, (4, 6)),
                        ("strike", 6, 1), enact("base", "7", 7, (5, 6)), ("strike", 9, 0), ("strike", 9, 4)])
        found = [ask(book, day=5, known=known) for known in range(10)]
        base, none = [("rule", "base", 0)], (("none", "base"), [("rule", "base", None)])
        self.assertEqual(found, [
            none, none, (("amount", 0), base + [("fact", "age", None)]),
            (("amount", 40), base + [("fact", "age", 1)]), (("amount", 40), base + [("fact", "age", 1)]),
            (("amount", 50), base + [("fact", "age", 2)]), (("amount", 50), base + [("fact", "age", 2)]),
            (("amount", 7), [("rule", "base", 4)]), (("amount", 7), [("rule", "base", 4)]), none])

    def test_the_days_for_which_it_holds(self):
        book = book_of([enact("base", "fact age or 0", 2), report("age", 40, 3, (4, 6))])
        found = [ask(book, day=day, known=9999)[0][1] for day in [0, 3, 4, 5, 6, 9999]]
        self.assertEqual(found, [0, 0, 40, 40, 0, 0])

    def test_the_last_day(self):
        book = book_of([enact("base", "1", 9999, (9999, 10000))])
        self.assertEqual(ask(book, day=9999, known=9999)[0], ("amount", 1))
        self.assertEqual(ask(book, day=9998, known=9999)[0], ("none", "base"))
        self.assertEqual(ask(book, day=9999, known=9998)[0], ("none", "base"))


class OrderTest(DecisionsCase):
    """Point 9 tells what is read, and in which order."""

    def test_both_parts_the_first_one_first(self):
        for word in ["plus", "minus", "times", "least", "most"]:
            self.assertLooksUp(word + " fact age fact kids", ["age", "kids"])
            self.assertLooksUp(word + " fact kids fact age", ["kids", "age"])
            self.assertLooksUp(word + " fact age fact age", ["age", "age"])
        for word in ["below", "same"]:
            self.assertLooksUp("if " + word + " fact age fact kids 0 0", ["age", "kids"])
            self.assertLooksUp("if " + word + " fact kids fact age 0 0", ["kids", "age"])

    def test_nothing_is_spared_that_plays_no_part(self):
        self.assertLooksUp("times 0 fact age", ["age"])
        self.assertLooksUp("percent 0 fact age", ["age"])
        self.assertStops("times 0 fact none", ("missing", "none"), [("fact", "none")])
        self.assertStops("percent 0 fact none", ("missing", "none"), [("fact", "none")])

    def test_if_reads_the_part_that_is_asked_for(self):
        self.assertLooksUp("if known age fact kids fact none", ["age", "kids"])
        self.assertLooksUp("if known none fact none fact kids", ["none", "kids"])
        self.assertAmount("if below 1 2 3 due base", 3)
        self.assertAmount("if below 2 1 due base 3", 3)

    def test_both_and_either(self):
        self.assertLooksUp("if both known age known kids 0 0", ["age", "kids"])
        self.assertLooksUp("if both known none known kids 0 0", ["none"])
        self.assertLooksUp("if either known age known kids 0 0", ["age"])
        self.assertLooksUp("if either known none known kids 0 0", ["none", "kids"])
        self.assertLooksUp("if both not known age known kids 0 0", ["age"])
        self.assertLooksUp("if either not known age known kids 0 0", ["age", "kids"])
        self.assertAmount("if both known none same 1 fact none 0 1", 1)
        self.assertAmount("if either known age same 1 fact none 1 0", 1)

    def test_or_is_read_if_the_fact_is_not_known(self):
        self.assertLooksUp("fact age or fact kids", ["age"])
        self.assertLooksUp("fact none or fact kids", ["none", "kids"])
        self.assertLooksUp("fact none or fact nil or fact kids", ["none", "nil"])
        self.assertLooksUp("fact none or fact none or due more", ["none", "none", "due more"], more="1")
        self.assertAmount("fact nil or due base", 0)

    def test_due_reads_the_text_where_it_stands(self):
        text = "plus fact age plus due more fact kids"
        self.assertLooksUp(text, ["age", "due more", "debt", "nil", "kids"], more="plus fact debt fact nil")

    def test_what_is_looked_up_again_stands_there_again(self):
        wanted = ["due more", "age", "due more", "age"]
        self.assertLooksUp("plus due more due more", wanted, more="fact age")
        self.assertAmount("plus due more due more", 80, more="fact age")

    def test_the_dossier_line_by_line(self):
        book = rules_book({"base": "plus fact kids plus due more fact none or 1", "more": "if known age 1 2"})
        self.assertEqual(ask(book)[1], [
            ("rule", "base", 0), ("fact", "kids", 3), ("rule", "more", 1), ("fact", "age", 2), ("fact", "none", None)])


class StopsTest(DecisionsCase):
    def test_missing(self):
        self.assertStops("fact none", ("missing", "none"), [("fact", "none")])
        self.assertStops("plus fact none fact age", ("missing", "none"), [("fact", "none")])
        self.assertStops("plus fact age fact none", ("missing", "none"), [("fact", "age"), ("fact", "none")])
        self.assertStops("if same fact none 1 2 3", ("missing", "none"), [("fact", "none")])
        self.assertStops("fact none or fact nope", ("missing", "nope"), [("fact", "none"), ("fact", "nope")])
        self.assertStops("plus fact none fact nope", ("missing", "none"), [("fact", "none")])
        self.assertStops("due more", ("missing", "none"), [("rule", "more"), ("fact", "none")], more="fact none")
        self.assertEqual(ask(rules_book({"base": "fact none"}))[1], [("rule", "base", 0), ("fact", "none", None)])

    def test_none(self):
        self.assertEqual(ask(rules_book({})), (("none", "base"), [("rule", "base", None)]))
        self.assertEqual(ask(book_of([])), (("none", "base"), [("rule", "base", None)]))
        self.assertStops("due more", ("none", "more"), [("rule", "more")])
        self.assertStops("plus due more fact none", ("none", "more"), [("rule", "more")])
        self.assertStops("plus fact none due more", ("missing", "none"), [("fact", "none")])
        self.assertEqual(ask(rules_book({"base": "due more"}))[1], [("rule", "base", 0), ("rule", "more", None)])

    def test_a_rule_that_asks_for_itself(self):
        self.assertStops("due base", ("circle", "base"), [])
        self.assertStops("plus fact age due base", ("circle", "base"), [("fact", "age")])
        self.assertStops("plus due base fact none", ("circle", "base"), [])
        self.assertStops("if same due base 1 2 3", ("circle", "base"), [])

    def test_a_rule_that_asks_for_itself_by_way_of_others(self):
        self.assertStops("due more", ("circle", "base"), [("rule", "more")], more="due base")
        self.assertStops("due more", ("circle", "more"), [("rule", "more")], more="due more")
        rules = {"more": "due rest", "rest": "plus fact age due more"}
        self.assertStops("due more", ("circle", "more"), [("rule", "more"), ("rule", "rest"), ("fact", "age")], **rules)

    def test_a_rule_may_be_read_again_once_it_has_been_read(self):
        self.assertAmount("plus due more plus due more due rest", 3, more="1", rest="due more")

    def test_a_circle_that_is_not_read(self):
        self.assertAmount("if known age 1 due base", 1)
        self.assertAmount("plus due more fact age or due base", 41, more="if known none due base 1")

    def test_large_at_the_limit_and_one_beyond(self):
        for text, amount in [(AT_LIMIT, LARGEST), (AT_LOWEST, -LARGEST)]:
            self.assertAmount(text, amount)
            self.assertAmount("plus 0 " + text, amount)
            self.assertAmount("minus " + text + " 0", amount)
            self.assertAmount("percent 100 " + text, amount)
            self.assertAmount("times 1 " + text, amount)
            self.assertAmount("least " + text + " most " + text + " " + text, amount)
        for beyond in [
            "plus 1 " + AT_LIMIT, "plus " + AT_LIMIT + " 1", "minus " + AT_LIMIT + " -1", "minus 1 " + AT_LOWEST,
            "plus -1 " + AT_LOWEST, "minus " + AT_LOWEST + " 1", "minus -1 " + AT_LIMIT, "times 2 " + AT_LIMIT,
            "times -2 " + AT_LIMIT, "times " + AT_LIMIT + " " + AT_LIMIT, "times 999999999 999999999",
            "times -999999999 999999999", "percent 101 " + AT_LIMIT, "percent 101 " + AT_LOWEST,
            "percent 1000 " + AT_LIMIT, "times 100000001 10000000",
        ]:
            self.assertStops(beyond, ("large", "base"), [])

    def test_large_in_the_middle_of_a_text(self):
        for beyond in ["plus 1 " + AT_LIMIT, "minus " + AT_LOWEST + " 1", "times 2 " + AT_LIMIT,
                       "percent 101 " + AT_LIMIT]:
            self.assertStops("times 0 " + beyond, ("large", "base"), [])
            self.assertStops("minus " + beyond + " 999999999", ("large", "base"), [])
            self.assertStops("percent 0 " + beyond, ("large", "base"), [])
            self.assertStops("least 0 " + beyond, ("large", "base"), [])
            self.assertStops("if below " + beyond + " 0 0 fact age", ("large", "base"), [])
            self.assertStops("plus fact age plus " + beyond + " fact none", ("large", "base"), [("fact", "age")])

    def test_large_is_what_percent_comes_to_when_rounded_down(self):
        # 101 percent of this is the limit and 91 hundredths.
        amount = "plus times 990099009 1000000 900991"
        self.assertAmount("percent 101 " + amount, LARGEST)
        self.assertStops("percent 101 minus 0 " + amount, ("large", "base"))
        # What comes before the division by 100 may be beyond the limit.
        self.assertAmount("percent 1000 percent 10 " + AT_LIMIT, LARGEST)
        self.assertAmount("percent 1000 percent 10 " + AT_LOWEST, -LARGEST)
        self.assertStops("percent 1000 plus 1 percent 10 " + AT_LIMIT, ("large", "base"))

    def test_large_names_the_rule_of_the_text(self):
        self.assertStops("due more", ("large", "more"), [("rule", "more")], more="plus 1 " + AT_LIMIT)
        self.assertStops("plus 1 due more", ("large", "base"), [("rule", "more")], more=AT_LIMIT)
        self.assertStops("plus due more due rest", ("large", "rest"), more="1", rest="plus 1 " + AT_LIMIT)
        self.assertStops("plus due more " + "times 2 " + AT_LIMIT, ("large", "base"), more="1")

    def test_the_first_thing_that_stops_is_told(self):
        self.assertStops("plus plus 1 " + AT_LIMIT + " fact none", ("large", "base"), [])
        self.assertStops("plus 1 plus " + AT_LIMIT + " fact none", ("missing", "none"), [("fact", "none")])
        self.assertStops("plus due base fact none", ("circle", "base"), [])
        self.assertStops("plus fact none due base", ("missing", "none"), [("fact", "none")])
        self.assertStops("plus due more due base", ("none", "more"), [("rule", "more")])


def chain(many, last="1"):
    """Rules r1, r2 and so on, each of which asks for the next one; the last one has a text of its own."""
    rules = {f"r{at}": f"due r{at + 1}" for at in range(1, many)}
    rules[f"r{many}"] = last
    return rules


class DeepTest(DecisionsCase):
    def test_six_texts_are_not_too_deep(self):
        decision, dossier = ask(rules_book(chain(6)), "r1")
        self.assertEqual(decision, ("amount", 1))
        self.assertEqual(dossier, [("rule", f"r{at + 1}", at) for at in range(6)])

    def test_a_seventh_is(self):
        decision, dossier = ask(rules_book(chain(7)), "r1")
        self.assertEqual(decision, ("deep", "r7"))
        self.assertEqual(dossier, [("rule", f"r{at + 1}", at) for at in range(6)])
        self.assertEqual(ask(rules_book(chain(7)), "r2")[0], ("amount", 1))

    def test_deep_comes_before_none(self):
        self.assertEqual(ask(rules_book(chain(6, "due r7")), "r1")[0], ("deep", "r7"))
        self.assertEqual(ask(rules_book(chain(5, "due r6")), "r1")[0], ("none", "r6"))

    def test_circle_comes_before_deep(self):
        for name in ["r1", "r3", "r6"]:
            decision, dossier = ask(rules_book(chain(6, "due " + name)), "r1")
            self.assertEqual(decision, ("circle", name))
            self.assertEqual(len(dossier), 6)

    def test_a_text_that_has_been_read_is_read_no_more(self):
        rules = chain(6)
        rules["r1"] = "plus due r2 due r2"
        self.assertEqual(ask(rules_book(rules), "r1")[0], ("amount", 2))
        rules["r5"] = "plus due r6 due r6"
        self.assertEqual(ask(rules_book(rules), "r1")[0], ("amount", 4))
        rules["r6"] = "plus fact age due r7"
        decision, dossier = ask(rules_book(rules), "r1")
        self.assertEqual(decision, ("deep", "r7"))
        self.assertEqual(names(dossier)[-2:], [("rule", "r6"), ("fact", "age")])

    def test_facts_are_looked_up_at_any_depth(self):
        self.assertEqual(ask(rules_book(chain(6, "fact age")), "r1")[0], ("amount", 40))
        self.assertEqual(ask(rules_book(chain(6, "fact none")), "r1")[0], ("missing", "none"))
        self.assertEqual(ask(rules_book(chain(6, "plus 1 " + AT_LIMIT)), "r1")[0], ("large", "r6"))

    def test_the_deepest_texts_need_few_calls(self):
        calls, frame = 0, sys._getframe()
        while frame is not None:
            calls, frame = calls + 1, frame.f_back
        before = sys.getrecursionlimit()
        try:
            for start, end in [("if " + "not " * 33 + "same ", " 1 2 3"), ("percent 100 " * 19, ""),
                               ("fact none or " * 12, ""), ("if below " * 7, " 1 2 3" * 7)]:
                rules = {f"r{at}": f"{start}due r{at + 1}{end}" for at in range(1, 6)}
                book = rules_book({**rules, "r6": "7"})
                sys.setrecursionlimit(calls + 300)
                self.assertEqual(ask(book, "r1")[0][0], "amount")
                sys.setrecursionlimit(before)
        finally:
            sys.setrecursionlimit(before)


def long_rules(tail):
    """Base looks up 99 things, itself among them, and then what the tail looks up."""
    return {"base": "plus due more " * 7 + tail, "more": "plus fact age " * 12 + "fact age"}


class LongTest(DecisionsCase):
    def assertLong(self, tail, decision, **more):
        found, dossier = ask(rules_book({**long_rules(tail), **more}))
        self.assertEqual(found, decision)
        self.assertEqual(len(dossier), 100)

    def test_ninety_nine(self):
        decision, dossier = ask(rules_book(long_rules("1")))
        self.assertEqual(decision, ("amount", 7 * 13 * 40 + 1))
        self.assertEqual(len(dossier), 99)

    def test_one_hundred_things_are_looked_up(self):
        self.assertLong("fact kids", ("amount", 7 * 13 * 40 + 3))
        self.assertLong("fact none or 2", ("amount", 7 * 13 * 40 + 2))
        self.assertLong("if known none 1 2", ("amount", 7 * 13 * 40 + 2))
        self.assertLong("due rest", ("amount", 7 * 13 * 40 + 2), rest="2")
        self.assertLong("fact none", ("missing", "none"))
        self.assertLong("due rest", ("none", "rest"))

    def test_the_next_one_is_too_long(self):
        self.assertLong("plus fact kids fact age", ("long", "age"))
        self.assertLong("plus fact kids fact kids", ("long", "kids"))
        self.assertLong("plus fact kids due more", ("long", "more"))
        self.assertLong("plus fact kids if known age 1 2", ("long", "age"))
        self.assertLong("due rest", ("long", "debt"), rest="fact debt")
        self.assertLong("fact none or fact kids", ("long", "kids"))

    def test_it_is_not_looked_up_so_it_may_be_unknown(self):
        self.assertLong("plus fact kids fact none", ("long", "none"))
        self.assertLong("plus fact kids fact none or 1", ("long", "none"))
        self.assertLong("plus fact kids if known none 1 2", ("long", "none"))
        self.assertLong("plus fact kids due rest", ("long", "rest"))

    def test_circle_and_deep_come_before_it(self):
        self.assertLong("plus fact kids due base", ("circle", "base"))
        rules = {**chain(6, "due r7"), "more": long_rules("")["more"]}
        rules["r6"] = "plus due more " * 6 + "plus fact age plus fact age plus fact age due r7"
        decision, dossier = ask(rules_book(rules), "r1")
        # At this depth `more` is too deep already: it is what is told.
        self.assertEqual(decision, ("deep", "more"))
        rules["r5"] = "plus due more " * 6 + "plus fact age " * 5 + "due r6"
        rules["r6"] = "plus fact age due r7"
        decision, dossier = ask(rules_book(rules), "r1")
        self.assertEqual((len(dossier), dossier[-1][:2]), (96, ("fact", "age")))
        self.assertEqual(decision, ("deep", "r7"))
        rules["r6"] = "plus fact age " * 5 + "due r7"
        decision, dossier = ask(rules_book(rules), "r1")
        self.assertEqual((len(dossier), decision), (100, ("deep", "r7")))
        rules["r6"] = "plus fact age " * 6 + "due r7"
        decision, dossier = ask(rules_book(rules), "r1")
        self.assertEqual((len(dossier), decision), (100, ("long", "age")))

    def test_what_needs_no_looking_up_may_follow(self):
        self.assertLong("plus fact kids plus 1 2", ("amount", 7 * 13 * 40 + 6))
        self.assertLong("plus fact kids plus 1 " + AT_LIMIT, ("large", "base"))

    def test_what_is_not_read_does_not_count(self):
        rules = long_rules("fact kids or fact age")
        self.assertEqual(ask(rules_book(rules))[0], ("amount", 7 * 13 * 40 + 3))
        rules = long_rules("if either known kids known kids 1 fact age")
        self.assertEqual(ask(rules_book(rules))[0], ("amount", 7 * 13 * 40 + 1))


class AloneTest(DecisionsCase):
    """Point 13: a decision hangs on what its dossier names alone."""

    def test_another_book_with_the_same_facts_and_texts(self):
        for seed in range(300):
            source = random.Random(seed)
            book = book_of(random_entries(source, 12))
            question = random_question(source)
            decision, dossier = decide(book, question)
            other = self.other_book(book, question, dossier, source)
            self.assertEqual(decide(other, question)[0], decision, seed)

    def other_book(self, book, question, dossier, source):
        """What the dossier names stands in another order and for other days; the rest is something else."""
        person, _, day, known = question
        entries, named = [], []
        for kind, name, index in dossier:
            if index is not None and (kind, name) not in named:
                entry = book.entries()[index]
                entries.append(entry[:1] + (0,) + entry[2:-1] + ((day, day + 1),))
            named.append((kind, name))
        for name in ["age", "kids", "base"]:
            if ("fact", name) not in named:
                entries.append(("report", 0, person, name, 12345, ALL))
        for name in ["base", "more", "rest", "last", "a", "b", "c", "d", "e"]:
            if ("rule", name) not in named:
                entries.append(("enact", 0, name, "54321", ALL))
        source.shuffle(entries)
        return book_of(entries + [report("age", 3, known + 1), report("age", 3, known + 1, ALL, "eve")])


class CopiesTest(DecisionsCase):
    def test_what_is_returned_is_new(self):
        book = rules_book({"base": "plus fact age fact none or 1"})
        first, second = ask(book), ask(book)
        self.assertIsNot(first[1], second[1])
        first[1].clear()
        second[1].append(("fact", "age", 0))
        self.assertEqual(len(ask(book)[1]), 3)

    def test_nothing_is_modified(self):
        book = rules_book({"base": "plus fact age due base"})
        before = book.entries()
        dossier = [("rule", "base", 0), ("fact", "age", 1)]
        ask(book)
        self.assertTrue(judge(book, ("ann", "base", 5, 5), ("circle", "base"), dossier))
        self.assertEqual(dossier, [("rule", "base", 0), ("fact", "age", 1)])
        self.assertEqual(book.entries(), before)

    def test_a_stop_leaves_nothing_behind(self):
        book = rules_book({"base": "due more", "more": "if known age due base 1", "rest": "due more"})
        self.assertEqual([ask(book)[0] for _ in range(3)], [("circle", "base")] * 3)
        self.assertEqual(ask(book, "rest")[0], ("circle", "more"))

    def test_no_error_is_raised(self):
        for text in ["due base", "fact none", "due none", "times 2 " + AT_LIMIT]:
            try:
                ask(rules_book({"base": text}))
            except WritError as error:
                self.fail(error)


class SecondWayTest(unittest.TestCase):
    def test_many_books_decided_in_a_second_way(self):
        kinds = {}
        for seed in range(800):
            source = random.Random(seed)
            entries = random_entries(source, source.choice([0, 3, 8, 20, 40]))
            book = book_of(entries)
            for _ in range(5):
                question = random_question(source)
                decided = decide(book, question)
                self.assertEqual(decided, decide_second(entries, question), (seed, question))
                self.check_dossier(book, question, decided[1])
                kinds[decided[0][0]] = kinds.get(decided[0][0], 0) + 1
        self.assertLessEqual({"amount", "circle", "deep", "missing", "none", "large"}, set(kinds))

    def check_dossier(self, book, question, dossier):
        person, rule, day, known = question
        self.assertEqual(dossier[0][:2], ("rule", rule))
        for kind, name, index in dossier:
            if kind == "rule":
                self.assertEqual(index, rule_at(book, name, day, known))
            else:
                self.assertEqual(index, fact_at(book, person, name, day, known))


if __name__ == "__main__":
    unittest.main()
