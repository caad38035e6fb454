import unittest

from messageways import errors

FIELDS = {
    "TokenError": ("place", 7),
    "LineError": ("line", 3),
    "BadMessage": ("name", "n"),
    "MissingArgument": ("name", "n"),
    "WrongArgument": ("name", "n"),
    "PowerCut": ("written", 12),
    "NoSuchPlace": ("path", ((0, "x"), (1, 5))),
    "NoSuchKey": ("key", "k"),
    "EndError": None,
    "ShutError": None,
}


def made(name):
    kind = getattr(errors, name)
    return kind() if FIELDS[name] is None else kind(FIELDS[name][1])


class ErrorsTest(unittest.TestCase):
    def test_the_base_is_a_value_error(self):
        self.assertTrue(issubclass(errors.MessagewaysError, ValueError))

    def test_all_are_of_the_base(self):
        for name in FIELDS:
            with self.subTest(name):
                self.assertIsInstance(made(name), errors.MessagewaysError)
                self.assertNotEqual(str(made(name)), "")

    def test_none_is_of_another_one(self):
        for name in FIELDS:
            for other in FIELDS:
                if name != other:
                    self.assertNotIsInstance(made(name), getattr(errors, other))

    def test_fields(self):
        for name, field in FIELDS.items():
            if field is not None:
                with self.subTest(name):
                    self.assertEqual(getattr(made(name), field[0]), field[1])

    def test_they_are_defined_in_their_file(self):
        for name in ["MessagewaysError", *FIELDS]:
            self.assertEqual(getattr(errors, name).__module__, "messageways.errors")


if __name__ == "__main__":
    unittest.main()
