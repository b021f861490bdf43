"""The errors of the interface: their fields and their only base class."""

import unittest

from drawingoffice import errors

FIELDS = {
    "BadName": "name", "NameTaken": "name", "UnknownName": "name", "UnlikeEnds": "name", "SamePart": "name",
    "BadEnds": "low high", "BadCount": "options", "TurnTwice": "name", "BadOption": "name option",
    "CardFull": "kind", "CardEmpty": "", "BadTold": "at", "NotItsTurn": "at", "StateLost": "at",
    "StateSaved": "at", "WrongCount": "due", "CardSure": "", "CardUnsure": "", "BadWidening": "by",
    "BadPosition": "to", "TooManySteps": "step_count", "TooMuchGrowth": "growth_factor", "TooManyRows": "bound",
    "BadBound": "bound", "NeverRests": "text", "BadLimit": "limit", "BadChange": "limit", "DoesNotGo": "limit",
    "UnknownChange": "name", "NoOrder": "", "BadRun": "run", "BadStore": "", "UnknownStart": "name",
    "BadFact": "at", "CannotBear": "", "NoStore": "at by", "NotForced": "", "BadRules": "where",
    "UnknownState": "state", "UnknownEvent": "event", "UnknownLetter": "char", "DuplicateName": "name",
    "WrongArguments": "name", "NeedsArguments": "name", "BadChoice": "at choice", "NoRun": "",
    "KindMismatch": "wanted found", "RunFails": "", "LateFails": "row", "DoesNotFit": "", "IsCleared": "",
    "NotCleared": "", "UnlikeCatalogs": "", "NoParting": "", "BadLine": "line",
}


class Errors(unittest.TestCase):
    def test_each_class_stands_directly_below_the_base_class(self):
        self.assertEqual(errors.OfficeError.__bases__, (ValueError,))
        for name in FIELDS:
            self.assertEqual(getattr(errors, name).__bases__, (errors.OfficeError,), name)

    def test_nothing_else_is_in_the_module(self):
        found = [name for name, value in vars(errors).items() if isinstance(value, type)]
        self.assertEqual(sorted(found), sorted(list(FIELDS) + ["OfficeError"]))

    def test_fields_have_the_names_of_the_parameters(self):
        for name, fields in FIELDS.items():
            words = fields.split()
            error = getattr(errors, name)(*range(len(words)))
            self.assertEqual([getattr(error, word) for word in words], list(range(len(words))), name)

    def test_fields_can_be_passed_by_their_names(self):
        self.assertEqual(errors.BadEnds(low=3, high=2).low, 3)
        self.assertEqual(errors.KindMismatch(wanted=(1,), found=()).found, ())


if __name__ == "__main__":
    unittest.main()
