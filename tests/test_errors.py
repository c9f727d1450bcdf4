import unittest

from gridlocks import errors

FIELDS = {
    "BadProgram": ("program", "index"),
    "BadPlace": (),
    "BadWay": ("index",),
    "Unfinished": (),
    "BadSize": (),
    "BadTurn": (),
    "InvalidText": ("line", "word"),
    "BadCrew": (),
    "TooMany": ("most",),
}


class ErrorsTest(unittest.TestCase):
    def test_base_class(self):
        self.assertEqual(errors.GridError.__bases__, (ValueError,))

    def test_each_class_is_defined_here_directly_below_the_base_class(self):
        for name in FIELDS:
            made = getattr(errors, name)
            self.assertEqual(made.__bases__, (errors.GridError,), name)
            self.assertEqual(made.__module__, "gridlocks.errors", name)

    def test_fields_are_set_when_created(self):
        for name, fields in FIELDS.items():
            worths = list(range(5, 5 + len(fields)))
            by_position = getattr(errors, name)(*worths)
            by_name = getattr(errors, name)(**dict(zip(fields, worths)))
            for made in (by_position, by_name):
                self.assertIsInstance(made, ValueError)
                self.assertEqual([getattr(made, field) for field in fields], worths, name)
                self.assertEqual(set(vars(made)), set(fields), name)

    def test_index_may_be_none(self):
        self.assertIsNone(errors.BadProgram(1, None).index)
        self.assertIsNone(errors.BadWay(None).index)


if __name__ == "__main__":
    unittest.main()
