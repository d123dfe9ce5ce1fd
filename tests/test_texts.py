import unittest

from duewrits.errors import BadText, NotAllowed
from duewrits.texts import format_amount, parse_amount

FIVE = ("number", 5)
SIX = ("number", 6)
AGE = ("fact", "age", None)

# Each form of an expression and of a condition, with what it is parsed to.
FORMS = {
    "5": FIVE,
    "-3": ("number", -3),
    "0": ("number", 0),
    "999999999": ("number", 999999999),
    "-999999999": ("number", -999999999),
    "fact age": AGE,
    "fact age or 5": ("fact", "age", FIVE),
    "due base": ("due", "base"),
    "plus 5 fact age": ("plus", FIVE, AGE),
    "minus 5 fact age": ("minus", FIVE, AGE),
    "times 5 fact age": ("times", FIVE, AGE),
    "least 5 fact age": ("least", FIVE, AGE),
    "most 5 fact age": ("most", FIVE, AGE),
    "percent 50 due base": ("percent", 50, ("due", "base")),
    "percent 0 5": ("percent", 0, FIVE),
    "percent 1000 5": ("percent", 1000, FIVE),
    "if below fact age 5 6 due base": ("if", ("below", AGE, FIVE), SIX, ("due", "base")),
    "if same fact age 5 6 due base": ("if", ("same", AGE, FIVE), SIX, ("due", "base")),
    "if known age 5 6": ("if", ("known", "age"), FIVE, SIX),
    "if not known age 5 6": ("if", ("not", ("known", "age")), FIVE, SIX),
    "if both known age known sex 5 6": ("if", ("both", ("known", "age"), ("known", "sex")), FIVE, SIX),
    "if either known age same 5 6 5 6": ("if", ("either", ("known", "age"), ("same", FIVE, SIX)), FIVE, SIX),
    # An `or` belongs to the fact before it, wherever that fact stands.
    "fact age or fact old or 5": ("fact", "age", ("fact", "old", FIVE)),
    "plus fact age or 5 6": ("plus", ("fact", "age", FIVE), SIX),
    "plus 6 fact age or 5": ("plus", SIX, ("fact", "age", FIVE)),
    "plus fact age fact old or 5": ("plus", AGE, ("fact", "old", FIVE)),
    "fact age or plus fact old or 5 6": ("fact", "age", ("plus", ("fact", "old", FIVE), SIX)),
    "if below fact age or 5 6 5 6": ("if", ("below", ("fact", "age", FIVE), SIX), FIVE, SIX),
    # Names that look like the program's own words.
    "due number": ("due", "number"),
    "fact amount or due none": ("fact", "amount", ("due", "none")),
}


def kinds_of(value):
    """The types of all that a tree consists of, in the tree's own shape."""
    if isinstance(value, tuple):
        return tuple([tuple] + [kinds_of(part) for part in value])
    return type(value)


class TextCase(unittest.TestCase):
    def assertBad(self, text, at):
        with self.assertRaises(BadText) as caught:
            parse_amount(text)
        self.assertEqual(caught.exception.at, at, text)


class TextsTest(TextCase):
    def test_the_examples_of_the_interface(self):
        text = "if below fact age 18 0 percent 50 due base"
        tree = ("if", ("below", AGE, ("number", 18)), ("number", 0), ("percent", 50, ("due", "base")))
        self.assertEqual(parse_amount(text), tree)
        self.assertEqual(format_amount(("fact", "age", ("number", -3))), "fact age or -3")

    def test_each_form_is_parsed(self):
        for text, tree in FORMS.items():
            self.assertEqual(parse_amount(text), tree, text)
            self.assertEqual(kinds_of(parse_amount(text)), kinds_of(tree), text)

    def test_each_form_is_formatted(self):
        for text, tree in FORMS.items():
            self.assertEqual(format_amount(tree), text)
            self.assertEqual(parse_amount(format_amount(tree)), tree)

    def test_extra_spaces_are_ignored(self):
        for text, tree in FORMS.items():
            self.assertEqual(parse_amount("   " + text.replace(" ", "   ") + "  "), tree)
            self.assertEqual(format_amount(parse_amount("  " + text + " ")), text)
        self.assertBad("   ", 0)
        self.assertBad("  plus   1  ", 2)
        self.assertBad("  plus  1   2    3  ", 3)

    def test_only_spaces_divide_words(self):
        self.assertBad("plus\t5 6", 0)
        self.assertBad("plus 5\t6", 1)
        self.assertBad("plus 5,6", 1)

    def test_the_examples_of_the_document(self):
        self.assertBad("plus 1 2 3", 3)
        self.assertBad("plus 1", 2)
        self.assertBad("", 0)
        self.assertBad("fact age or 5 or 6", 4)

    def test_numbers_at_the_edges(self):
        for word in ["1000000000", "-1000000000", "007", "00", "-0", "-07", "-", "--5", "+5", "5a", "1_0", "5.0"]:
            self.assertBad(word, 0)
            self.assertBad("plus " + word + " 5", 1)
            self.assertBad("fact age or " + word, 3)

    def test_the_number_of_percent(self):
        for word in ["1001", "-1", "-1000", "00", "01", "050", "-0", "-", "fact", "due", "5a", "9999999999"]:
            self.assertBad("percent " + word + " 5", 1)
        self.assertBad("percent fact age 5", 1)
        self.assertBad("percent 50", 2)
        self.assertBad("percent", 1)
        self.assertEqual(parse_amount("percent 1 -5"), ("percent", 1, ("number", -5)))

    def test_wrong_names(self):
        wrong = ["fact", "known", "due", "or", "plus", "minus", "times", "least", "most", "percent"]
        wrong += ["if", "below", "same", "not", "both", "either", "5", "Age", "abcdefghijklm", "9a", "a-b"]
        for word in wrong:
            self.assertBad("fact " + word, 1)
            self.assertBad("due " + word, 1)
            self.assertBad("if known " + word + " 5 6", 2)
        self.assertEqual(parse_amount("due abcdefghijkl"), ("due", "abcdefghijkl"))

    def test_a_wrong_word_at_each_place(self):
        for text in FORMS:
            words = text.split()
            for at in range(len(words)):
                changed = words[:at] + ["*"] + words[at + 1:]
                self.assertBad(" ".join(changed), at)
            self.assertBad(text + " *", len(words))
            self.assertBad(text + " 5", len(words))

    def test_a_word_of_another_kind(self):
        self.assertBad("age", 0)
        self.assertBad("number 5", 0)
        self.assertBad("known age", 0)
        self.assertBad("below 5 6", 0)
        self.assertBad("or 5", 0)
        self.assertBad("if 5 6 5", 1)
        self.assertBad("if due base 5 6", 1)
        self.assertBad("if not 5 6", 2)
        self.assertBad("if both known age 5 6 5", 4)
        self.assertBad("if known age or 5 6", 3)
        self.assertBad("due base or 5", 2)
        self.assertBad("plus 5 or 6", 2)
        self.assertBad("plus known age 5", 1)
        self.assertBad("fact or 5", 1)
        self.assertBad("fact age or or 5", 3)

    def test_a_text_cut_off_at_each_place(self):
        for text in FORMS:
            words = text.split()
            for many in range(len(words)):
                # What is cut off before an `or` may be whole.
                if words[many] != "or":
                    self.assertBad(" ".join(words[:many]), many)
        for text in ["plus fact age", "fact age or", "fact", "fact age or fact", "if known age 5"]:
            self.assertBad(text, len(text.split()))
        self.assertEqual(parse_amount("plus 6 fact age"), ("plus", SIX, AGE))


class WordLimitTest(TextCase):
    def test_forty_words_that_are_an_expression(self):
        text = "plus 5 " * 19 + "due base"
        self.assertEqual(len(text.split()), 40)
        self.assertEqual(format_amount(parse_amount(text)), text)
        self.assertEqual(parse_amount(text.replace(" ", "  ") + "   "), parse_amount(text))

    def test_forty_one_words_that_are_an_expression(self):
        text = "plus 5 " * 20 + "5"
        self.assertEqual(len(text.split()), 41)
        with self.assertRaises(NotAllowed):
            parse_amount(text)

    def test_forty_words_that_are_none(self):
        self.assertBad("plus " * 40, 40)
        self.assertBad("plus 5 " * 20, 40)
        self.assertBad("5 " * 40, 1)
        self.assertBad("plus " * 39 + "*", 39)
        self.assertBad("if both " * 20, 2)
        # These begin an expression, if only one of more than 40 words.
        self.assertBad("if " + "both " * 39, 40)
        self.assertBad("percent 5 " * 20, 40)

    def test_forty_one_words_that_are_none(self):
        for text in ["plus " * 41, "5 " * 41, "* " * 41, "or " * 100, "5 " + "* " * 40]:
            with self.assertRaises(NotAllowed):
                parse_amount(text)

    def test_the_deepest_texts(self):
        deepest = ["percent 5 " * 19 + "fact age", "if " + "not " * 35 + "known age 5 6", "fact a or " * 13 + "5"]
        for text in deepest:
            self.assertLessEqual(len(text.split()), 40)
            self.assertEqual(format_amount(parse_amount(text)), text)

    def test_formatting_knows_no_limit_of_words(self):
        tree = FIVE
        for _ in range(40):
            tree = ("plus", FIVE, tree)
        self.assertEqual(format_amount(tree), "plus 5 " * 40 + "5")


# A second way to find `at`: a stack of what is still to come, read word by word.

WANTED = {
    "due": ["name"], "plus": ["amount", "amount"], "percent": ["share", "amount"],
    "if": ["test", "amount", "amount"],
}
WANTED_TEST = {"known": ["name"], "not": ["test"], "both": ["test", "test"]}


def first_wrong(words):
    wanted = ["amount"]
    for at, word in enumerate(words):
        if wanted and wanted[-1] == "or":
            wanted.pop()
            if word == "or":
                wanted.append("amount")
                continue
        if not wanted:
            return at
        kind = wanted.pop()
        if kind == "amount" and word == "fact":
            wanted += ["or", "name"]
        elif kind == "amount" and word in WANTED:
            wanted += reversed(WANTED[word])
        elif kind == "test" and word in WANTED_TEST:
            wanted += reversed(WANTED_TEST[word])
        elif not (kind in ("amount", "share") and word == "5" or kind == "name" and word == "a"):
            return at
    return None if wanted in ([], ["or"]) else len(words)


class EveryShortTextTest(unittest.TestCase):
    def test_all_beginnings_of_up_to_six_words(self):
        vocabulary = ["5", "a", "fact", "or", "due", "plus", "percent", "if", "known", "not", "both"]
        beginnings = [[]]
        for _ in range(6):
            longer = [words + [word] for words in beginnings for word in vocabulary]
            for words in longer:
                self.check(words)
            beginnings = [words for words in longer if first_wrong(words) in (None, len(words))]
        self.assertIn("plus fact a or 5 5".split(), beginnings)

    def check(self, words):
        text = " ".join(words)
        found = None
        try:
            self.assertEqual(format_amount(parse_amount(text)), text)
        except BadText as error:
            found = error.at
        self.assertEqual(found, first_wrong(words), text)


if __name__ == "__main__":
    unittest.main()
