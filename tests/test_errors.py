"""[4] The errors."""

import unittest

from nomoreseen import errors
from tests.anything import values

KEPT = {
    "InvalidBook": "word", "InvalidModule": "at", "InvalidSecrets": "at", "InvalidState": "at", "InvalidPlay": "at",
    "InvalidScript": "at", "InvalidStranger": "at", "InvalidText": "at", "InvalidSpots": "at", "InvalidCode": "at",
    "InvalidRoom": "at", "InvalidFrames": "at", "InvalidWeb": "at", "InvalidLots": "at", "InvalidLink": "at",
    "InvalidIndex": "at", "InvalidSize": "word", "LargeTable": "many", "Refused": "at", "NoName": "name",
}
ALL = {name: getattr(errors, name) for name in list(KEPT) + ["InvalidCommand"]}


class Errors(unittest.TestCase):
    def test_base(self):
        self.assertEqual(errors.SeamError.__bases__, (Exception,))
        for name, error in ALL.items():
            self.assertEqual(error.__bases__, (errors.SeamError,), name)
            self.assertEqual(error.__name__, name)
            self.assertEqual(error.__module__, "nomoreseen.errors")

    def test_caught_by_its_own_name_alone(self):
        for name, error in ALL.items():
            told = (("x",),) if name in KEPT else ()
            for other, wanted in ALL.items():
                self.assertEqual(isinstance(error(*told), wanted), name == other)
            with self.assertRaises(errors.SeamError):
                raise error(*told)

    def test_keeps_what_it_was_made_with(self):
        for name, word in KEPT.items():
            for value in values():
                self.assertIs(getattr(ALL[name](value), word), value)
                self.assertIs(getattr(ALL[name](**{word: value}), word), value)
            with self.assertRaises(TypeError):
                ALL[name]()

    def test_keeps_the_thing_itself(self):
        told = ["rows", 0]
        error = errors.InvalidModule(told)
        told.append(2)
        self.assertEqual(error.at, ["rows", 0, 2])

    def test_command(self):
        self.assertEqual(vars(errors.InvalidCommand()), {})


if __name__ == "__main__":
    unittest.main()
