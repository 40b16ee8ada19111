"""The errors: classes above them, fields, word."""

import unittest

from heedless import errors

UNDER_HEED = {
    "BadPart": {}, "BadSize": {}, "BadName": {"name": "A"}, "BadRow": {"at": 3}, "Unreached": {"stand": 4},
    "Heeds": {"stand": 2, "one": "a", "other": "b"}, "BadText": {"at": 0}, "BadCounts": {}, "BadMany": {},
    "TooWide": {}, "Unending": {}, "Gone": {"stand": 1}, "Unlike": {}, "Working": {}, "BadDeed": {"at": 5},
    "Taken": {"name": "c"}, "Full": {},
}
UNDER_LACKING = {
    "NoStand": {"stand": -1}, "NoLetter": {"name": "z"}, "NoOutlet": {"name": "z"}, "NoMachine": {"name": "m"},
    "NoWeb": {"name": "w"}, "NoRun": {"name": "r"}, "NoneWaits": {"name": "m", "letter": "a"}, "NotHanded": {},
    "NothingLeft": {},
}


class ErrorsTest(unittest.TestCase):
    def test_each_stands_straight_under_its_class(self):
        self.assertEqual(errors.HeedError.__bases__, (ValueError,))
        self.assertEqual(errors.Lacking.__bases__, (LookupError,))
        for word in UNDER_HEED:
            self.assertEqual(getattr(errors, word).__bases__, (errors.HeedError,), word)
        for word in UNDER_LACKING:
            self.assertEqual(getattr(errors, word).__bases__, (errors.Lacking,), word)

    def test_there_are_no_others(self):
        told = {name for name, thing in vars(errors).items() if isinstance(thing, type)}
        self.assertEqual(told, set(UNDER_HEED) | set(UNDER_LACKING) | {"HeedError", "Lacking"})

    def test_fields_by_place_and_by_name_and_word(self):
        for word, fields in {**UNDER_HEED, **UNDER_LACKING}.items():
            kind = getattr(errors, word)
            for error in (kind(*fields.values()), kind(**fields)):
                self.assertEqual(error.word, word)
                self.assertEqual(vars(error), {"word": word, **fields})
                self.assertIn(word, str(error))

    def test_those_above_have_a_word_too(self):
        self.assertEqual(errors.HeedError().word, "HeedError")
        self.assertEqual(errors.Lacking().word, "Lacking")

    def test_caught_by_those_above(self):
        with self.assertRaises(ValueError):
            raise errors.Taken("c")
        with self.assertRaises(LookupError):
            raise errors.NoneWaits("m", "a")
        self.assertNotIsInstance(errors.BadSize(), LookupError)
        self.assertNotIsInstance(errors.NoStand(3), ValueError)


if __name__ == "__main__":
    unittest.main()
