import unittest

from duewrits.forms import is_day, is_name, is_number, is_span, is_value

RESERVED = "fact known due or plus minus times least most percent if below same not both either".split()


class NamesTest(unittest.TestCase):
    def test_names(self):
        for word in ["a", "z", "a0", "z9", "abcdefghijkl", "a12345678901", "number", "facts", "ifs", "an"]:
            self.assertTrue(is_name(word), word)

    def test_what_is_no_name(self):
        wrong = ["", "abcdefghijklm", "0", "9a", "A", "aB", "a-b", "a b", " a", "a ", "a_b", "a\n", "-", "a.b"]
        wrong += ["\u00e9", "a\u00e9", "a\u0665", "\u00df", "{a", "`a", "a/", "a:"]
        for word in wrong:
            self.assertFalse(is_name(word), word)

    def test_the_words_that_are_no_names(self):
        self.assertEqual(len(RESERVED), 16)
        for word in RESERVED:
            self.assertFalse(is_name(word), word)
            self.assertTrue(is_name(word + "x"), word)


class DaysTest(unittest.TestCase):
    def test_days(self):
        for day in [0, 1, 9998, 9999]:
            self.assertTrue(is_day(day), day)
        for day in [-1, -9999, 10000, 10001]:
            self.assertFalse(is_day(day), day)

    def test_spans(self):
        for span in [(0, 1), (0, 10000), (9999, 10000), (5, 6), (0, 9999)]:
            self.assertTrue(is_span(span), span)
        wrong = [(0, 0), (5, 5), (6, 5), (-1, 5), (-2, -1), (0, 10001), (10000, 10000)]
        wrong += [(10000, 10001), (9999, 9999), (9999, 0), (0, -1), (1, 2, 3), (1,), (), [1, 2]]
        for span in wrong:
            self.assertFalse(is_span(span), span)


class NumbersTest(unittest.TestCase):
    def test_values(self):
        for value in [0, 1, -1, 999999999, -999999999]:
            self.assertTrue(is_value(value), value)
        for value in [1000000000, -1000000000, 10 ** 30, -10 ** 30]:
            self.assertFalse(is_value(value), value)

    def test_numbers_as_words(self):
        for word in ["0", "7", "-7", "10", "999999999", "-999999999", "100000000"]:
            self.assertTrue(is_number(word), word)
        wrong = ["", "-", "-0", "00", "007", "-07", "+7", "--7", "7-", "1000000000", "-1000000000"]
        wrong += ["1_000", "1.0", "1e3", "0x1", "seven", "7a", "\u0665", "\u00b2", "7 ", "-000000000"]
        for word in wrong:
            self.assertFalse(is_number(word), word)


if __name__ == "__main__":
    unittest.main()
