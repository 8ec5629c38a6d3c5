"""Point [3]: the error classes, their bases and their arguments."""

import inspect
import unittest

from helper import Case
from middlewebs import errors

ARGUMENTS = {
    "InvalidNumber": ["value"],
    "InvalidGraph": ["part", "place"],
    "InvalidEdge": ["value"],
    "InvalidSubset": ["value"],
    "InvalidWord": ["value"],
    "InvalidWords": ["part", "place"],
    "InvalidClause": ["value"],
    "InvalidClauses": ["part", "place"],
    "InvalidEvents": ["part", "place"],
    "InvalidState": ["value"],
    "InvalidGrowth": ["place"],
    "InvalidFolding": ["part", "place"],
    "InvalidWeights": ["value"],
    "InvalidNames": ["value"],
    "InvalidForm": ["value"],
    "InvalidText": ["text", "at"],
    "UnknownCommand": ["word"],
    "InvalidCommand": ["command", "at"],
    "NothingToUndo": ["word"],
    "Undefined": ["what"],
    "TooLarge": ["what"],
}


class ErrorClasses(Case):

    def test_all_stand_directly_under_middle_error(self):
        self.assertEqual(errors.MiddleError.__bases__, (ValueError,))
        for name in ARGUMENTS:
            self.assertEqual(getattr(errors, name).__bases__, (errors.MiddleError,), name)

    def test_there_are_no_others(self):
        names = [name for name, value in vars(errors).items() if inspect.isclass(value)]
        self.assertEqual(sorted(names), sorted([*ARGUMENTS, "MiddleError"]))

    def test_parameters_are_called_as_shown(self):
        for name, arguments in ARGUMENTS.items():
            self.assertEqual(list(inspect.signature(getattr(errors, name)).parameters), arguments)

    def test_arguments_are_attributes_by_position_and_by_name(self):
        for name, arguments in ARGUMENTS.items():
            for value in (0, 7, True, None, "text", (1, (2,)), [1, [2]]):
                error_class = getattr(errors, name)
                by_position = error_class(*[value for _ in arguments])
                by_name = error_class(**{argument: value for argument in arguments})
                for error in (by_position, by_name):
                    self.assertEqual(vars(error), {argument: value for argument in arguments})
                    for argument in arguments:
                        self.assertIs(getattr(error, argument), value)

    def test_two_arguments_are_not_mixed_up(self):
        for name, arguments in ARGUMENTS.items():
            if len(arguments) == 2:
                error = getattr(errors, name)("one", 2)
                self.assertEqual([getattr(error, argument) for argument in arguments], ["one", 2])

    def test_they_are_caught_as_value_errors(self):
        for name, arguments in ARGUMENTS.items():
            for above in (getattr(errors, name), errors.MiddleError, ValueError):
                with self.assertRaises(above):
                    raise getattr(errors, name)(*arguments)


if __name__ == "__main__":
    unittest.main()
