import unittest

from blindkeys import errors

PLAIN = (
    "NoText", "NoPlace", "NoNumber", "NoLetter", "NoHand", "NoSheet", "NoTimes", "NoLengths",
    "NoPlay", "NoStand", "NoRings", "NoSeen", "Full", "Nothing", "NoRow", "NoName",
)
WITH_FIELD = {"TooMany": "many", "NoWriting": "line"}


class Classes(unittest.TestCase):
    def classes(self):
        return [getattr(errors, name) for name in (*PLAIN, *WITH_FIELD)]

    def test_all_stand_in_their_file(self):
        for kind in [errors.KeysError, *self.classes()]:
            self.assertEqual(kind.__module__, "blindkeys.errors")

    def test_keys_error_is_a_value_error(self):
        self.assertTrue(issubclass(errors.KeysError, ValueError))

    def test_each_stands_under_keys_error_and_under_no_other(self):
        for kind in self.classes():
            self.assertTrue(issubclass(kind, errors.KeysError))
            self.assertIsNot(kind, errors.KeysError)
            for other in self.classes():
                if other is not kind:
                    self.assertFalse(issubclass(kind, other), (kind, other))

    def test_plain_ones_are_raised_and_caught(self):
        for name in PLAIN:
            with self.assertRaises(errors.KeysError) as caught:
                raise getattr(errors, name)("words")
            self.assertEqual(type(caught.exception).__name__, name)

    def test_too_many_keeps_how_many(self):
        for many in (0, 25, 10 ** 30, 10 ** 6000):
            refusal = errors.TooMany(many)
            self.assertEqual(refusal.many, many)
            self.assertIsInstance(str(refusal), str)

    def test_no_writing_keeps_its_line(self):
        for line in (None, 0, 7):
            refusal = errors.NoWriting(line)
            self.assertEqual(refusal.line, line)
            self.assertIsInstance(str(refusal), str)


if __name__ == "__main__":
    unittest.main()
