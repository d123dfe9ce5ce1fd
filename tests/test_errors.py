import unittest

from duewrits.errors import BadText, NotAllowed, UnknownName, WritError

KINDS = [BadText, NotAllowed, UnknownName]


class ErrorsTest(unittest.TestCase):
    def test_each_is_a_writ_error_and_a_value_error(self):
        for kind in KINDS + [WritError]:
            self.assertTrue(issubclass(kind, WritError), kind)
            self.assertTrue(issubclass(kind, ValueError), kind)

    def test_none_is_a_subclass_of_another(self):
        for kind in KINDS:
            for other in KINDS:
                self.assertEqual(issubclass(kind, other), kind == other, (kind, other))

    def test_bad_text_has_at(self):
        self.assertEqual(BadText(3).at, 3)
        self.assertEqual(BadText(0).at, 0)
        self.assertIs(type(BadText(0).at), int)

    def test_each_has_a_message(self):
        self.assertNotEqual(str(BadText(3)), "")
        self.assertEqual(str(NotAllowed("too many")), "too many")
        self.assertEqual(str(UnknownName("nobody")), "nobody")


if __name__ == "__main__":
    unittest.main()
