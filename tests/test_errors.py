import unittest

from highestsky import errors

SKY_ERRORS = {
    "InvalidNumber": ["value"], "InvalidGauge": ["value"], "InvalidPlace": ["value"],
    "InvalidChart": ["row", "column"], "InvalidWind": ["at"], "InvalidTop": ["value"], "InvalidText": ["line", "why"],
    "InvalidRegion": ["at"], "InvalidPath": ["at"], "InvalidSquall": ["at"], "InvalidHeights": [],
    "InvalidMirror": ["value"], "InvalidSaying": ["at"], "OffChart": ["place"], "OtherChart": [], "TooMany": ["most"],
    "NotForced": ["at"], "InvalidPaper": [], "NoSky": ["grounds"], "HasSky": [], "NotPlain": ["at"], "Unkept": ["at"],
    "InvalidStation": ["at"], "NoBranch": ["value"], "OnLand": ["value"], "InvalidWay": ["at"],
    "InvalidMeasure": ["value"], "NoWay": [], "NoCase": [], "Impossible": ["core"], "InvalidDeed": ["at"],
    "NoDraft": [], "Ended": [],
}
MISSING = {name: ["value"] for name in [
    "UnknownPlace", "UnknownSaying", "UnknownGauge", "UnknownCase", "UnknownReport", "UnknownWatch"]}
VALUES = [None, True, 0, "x", (1, 2), [3, [4]], ("none", (), None)]


class Errors(unittest.TestCase):
    def check_class(self, name, base, words):
        error_class = getattr(errors, name)
        self.assertEqual(error_class.__bases__, (base,))
        for first in VALUES:
            values = [first, "second"][:len(words)]
            by_place = error_class(*values)
            by_name = error_class(**dict(zip(words, values)))
            backwards = error_class(**dict(reversed(list(zip(words, values)))))
            for error in [by_place, by_name, backwards]:
                self.assertEqual(error.code, name)
                for word, value in zip(words, values):
                    self.assertIs(getattr(error, word), value)

    def test_errors_of_the_sky(self):
        for name, words in SKY_ERRORS.items():
            with self.subTest(name):
                self.check_class(name, errors.SkyError, words)

    def test_errors_of_what_is_missing(self):
        for name, words in MISSING.items():
            with self.subTest(name):
                self.check_class(name, errors.Missing, words)

    def test_nothing_left(self):
        self.check_class("NothingLeft", IndexError, [])

    def test_bases(self):
        self.assertEqual(errors.SkyError.__bases__, (ValueError,))
        self.assertEqual(errors.Missing.__bases__, (LookupError,))
        self.assertIsInstance(errors.SkyError(), ValueError)
        self.assertIsInstance(errors.Missing(), LookupError)

    def test_bases_have_no_code(self):
        self.assertFalse(hasattr(errors.SkyError(), "code"))
        self.assertFalse(hasattr(errors.Missing(), "code"))

    def test_no_other_classes(self):
        found = [name for name, value in vars(errors).items() if isinstance(value, type)]
        wanted = [*SKY_ERRORS, *MISSING, "NothingLeft", "SkyError", "Missing"]
        self.assertEqual(sorted(found), sorted(wanted))

    def test_parameters_are_wanted(self):
        for name, words in {**SKY_ERRORS, **MISSING, "NothingLeft": []}.items():
            with self.subTest(name):
                with self.assertRaises(TypeError):
                    getattr(errors, name)(*[0] * (len(words) + 1))
                if words:
                    with self.assertRaises(TypeError):
                        getattr(errors, name)()

    def test_they_can_be_raised_and_caught(self):
        with self.assertRaises(errors.SkyError) as caught:
            raise errors.InvalidText(line=2, why="form")
        self.assertEqual((caught.exception.line, caught.exception.why), (2, "form"))
        with self.assertRaises(LookupError):
            raise errors.UnknownPlace((0, 0, 0))
