import unittest

from ringstays import errors
from ringstays.errors import InlineError

GIVEN = """InvalidCalls InvalidFunction InvalidPath InvalidNames InvalidCount InvalidOrder InvalidInlined
InvalidText InvalidLog InvalidPass InvalidPasses InvalidGroup InvalidVisits InvalidIndex InvalidMost InvalidCycle
InvalidComponent InvalidVersions InvalidNow InvalidStep InvalidDeeds InvalidParts InvalidIndexes InvalidEdit
InvalidTargets InvalidWants InvalidTurns InvalidWheel InvalidWheelLog InvalidInlinedCount InvalidStaying
InvalidLimits InvalidSum InvalidCells InvalidWorths InvalidPosition InvalidMode""".split()

FURTHER = {
    "TooMany": ["count"], "NoCall": ["at"], "NotInlined": ["path"], "NotOpen": ["path"],
    "SelfCall": ["function"], "NotPresent": ["part"], "NotOriginal": ["part"], "Stopped": ["at", "reached"],
    "NotInlinedAt": ["path"], "Unrolling": ["at"], "UnequalLists": ["function", "path"],
    "UnequalRows": ["function", "at"], "NotComplete": ["function"], "NoChange": ["function"],
    "OriginalBody": ["function"], "NoRow": ["function"], "NotACopy": ["function", "at"], "NoOrder": ["cycle"],
    "SmallCount": ["count"], "Unreachable": ["witness"], "StuckAt": ["stuck"], "LastVersion": ["function"],
    "StillInlined": ["call"], "NotUndoable": ["step"], "OtherProgram": ["other"],
    "NotBlocks": ["function", "path"], "NoJoin": ["defect"], "BlockedTarget": ["path"], "UnmetWants": ["defect"],
    "NotFromBelow": ["defect"], "NotTwo": ["count"], "UnreachableWheel": ["cycles"], "StoppedWheel": ["at"],
    "BadSource": ["at"], "TooManyCalls": ["function"], "TooDeep": [], "BadLine": ["at"],
    "TooNested": ["function"], "LongName": ["name"], "HasFoldings": ["at"], "NothingToUndo": [],
    "NothingToRedo": [],
}

ATTRIBUTES = {**{name: ["given"] for name in GIVEN}, **FURTHER}


class Errors(unittest.TestCase):
    def test_the_list_is_whole(self):
        classes = {name: value for name, value in vars(errors).items() if isinstance(value, type)}
        self.assertEqual(set(classes), set(ATTRIBUTES) | {"InlineError"})
        for name, value in classes.items():
            self.assertEqual((value.__name__, value.__module__), (name, "ringstays.errors"))

    def test_bases(self):
        self.assertEqual(InlineError.__bases__, (ValueError,))
        for name in ATTRIBUTES:
            self.assertEqual(getattr(errors, name).__bases__, (InlineError,), name)

    def test_any_values_by_position_and_by_name(self):
        for name, attributes in ATTRIBUTES.items():
            for values in ([object() for _ in attributes], [[] for _ in attributes], [None for _ in attributes]):
                made = getattr(errors, name)
                for error in (made(*values), made(**dict(zip(attributes, values)))):
                    self.assertEqual(list(vars(error)), attributes)
                    for attribute, value in zip(attributes, values):
                        self.assertIs(getattr(error, attribute), value)

    def test_raised_and_caught(self):
        for name, attributes in ATTRIBUTES.items():
            with self.assertRaises(InlineError):
                raise getattr(errors, name)(*attributes)

    def test_attributes_are_needed(self):
        for name, attributes in ATTRIBUTES.items():
            if attributes:
                with self.assertRaises(TypeError):
                    getattr(errors, name)(*attributes[1:])
