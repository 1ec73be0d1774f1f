"""The interface, heading errors.py."""

from helpers import Case
from leastreader import errors

PLAIN = (
    "BadSize", "BadRow", "BadWindow", "BadToken", "BadRecents", "BadRule", "BadMap", "Untold", "BadSign", "BadTable",
    "BadFormat", "BadBits", "BadDeed", "BadState", "BadClass", "NoState", "BadMachine", "BadLot", "NotAllowed",
    "BadName", "NotDone", "Abandoned")
FIELDS = {"TooFull": "at", "Letterless": "letter", "NoWord": "at", "BadPieces": "at", "TooLarge": "limit"}


class Errors(Case):
    def test_all_classes_derive_from_reader_error_directly(self):
        self.assertEqual(errors.ReaderError.__bases__, (ValueError,))
        for name in PLAIN + tuple(FIELDS):
            self.assertEqual(getattr(errors, name).__bases__, (errors.ReaderError,), name)

    def test_there_are_no_others(self):
        found = {name for name in vars(errors) if isinstance(getattr(errors, name), type)}
        self.assertEqual(found, set(PLAIN) | set(FIELDS) | {"ReaderError"})

    def test_classes_without_a_field_take_nothing_or_one_string(self):
        for name in PLAIN:
            for error in (getattr(errors, name)(), getattr(errors, name)("why")):
                with self.assertRaises(errors.ReaderError):
                    raise error

    def test_classes_with_a_field_take_its_value(self):
        for name, field in FIELDS.items():
            error = getattr(errors, name)(12)
            self.assertEqual(vars(error), {field: 12})
            with self.assertRaises(errors.ReaderError):
                raise error
