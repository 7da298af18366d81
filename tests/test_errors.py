"""The classes of cutruns.errors."""

import re

from cutruns import errors
from tests.helper import Case

VALUE_ERRORS = """InvalidShape(value) InvalidBody(value) InvalidPath(value) InvalidProgram(value)
InvalidProcedure(value) InvalidThread(value) InvalidPlace(value) InvalidMove(value) InvalidLock(value)
InvalidGoal(value) InvalidRow(value) InvalidWord(value) InvalidWords(value) InvalidState(value) BadText(line)
InvalidBodies(value) InvalidBroken(value) InvalidCell(value) InvalidCells(value) InvalidClaim(value)
InvalidCommand(value) InvalidDeeds(position) InvalidDeep(value) InvalidEvent(value) InvalidKinds(value)
InvalidLeg(value) InvalidLocks(value) InvalidModes(value) InvalidMost(value) InvalidPaper(value)
InvalidPart(value) InvalidPiece(value) InvalidPlaces(value) InvalidRace(value) InvalidRun(position)
InvalidRuns(value) InvalidSchedule(position) InvalidSort(value) InvalidTable(value) InvalidThing(value)
InvalidThreads(value) InvalidThrough(value) InvalidTorn(value) InvalidWraps(value) UnreadText(position)"""
LISTED = {
    ("HoldError", ValueError): VALUE_ERRORS,
    ("MissingError", LookupError): "NoSuchPath(path) NoThrough() NoWord(word) UnknownLabel(value) UnknownName(value)",
    ("StateError", RuntimeError): "CommandFailed(position) LabelTaken(label) NameTaken(name) NoRepair() NotAgreeing() "
    "NotHold() NotNested() NothingToRedo() NothingToUndo() TooDeep()",
    ("LimitError", ArithmeticError): "TooMany(what, limit)",
}


def classes():
    """Each class with its base and the names of its attributes."""
    for (base, of_python), listed in LISTED.items():
        yield base, of_python, None
        for name, told in re.findall(r"(\w+)\((.*?)\)", listed):
            yield name, getattr(errors, base), told.split(", ") if told else []


class ErrorsTest(Case):
    def test_each_class_has_its_own_direct_base(self):
        for name, base, _ in classes():
            self.assertEqual(getattr(errors, name).__bases__, (base,), name)

    def test_no_other_class(self):
        found = [name for name, thing in vars(errors).items() if isinstance(thing, type)]
        self.assertEqual(sorted(found), sorted([name for name, _, _ in classes()]))

    def test_attributes_by_position_and_by_name(self):
        for name, _, told in classes():
            if told is None:
                continue
            made = getattr(errors, name)
            for values in ([[0], {"k": None}], [None, object()], ["told", -1]):
                given = dict(zip(told, values))
                for error in (made(*given.values()), made(**given)):
                    self.assertEqual(vars(error), given)
                    for key, value in given.items():
                        self.assertIs(getattr(error, key), value)

    def test_other_numbers_of_values_are_not_taken(self):
        for name, _, told in classes():
            if told:
                with self.assertRaises(TypeError):
                    getattr(errors, name)()

    def test_each_is_caught_by_its_base(self):
        with self.assertRaises(ValueError):
            raise errors.InvalidShape(None)
        with self.assertRaises(errors.HoldError):
            raise errors.BadText(1)
        with self.assertRaises(LookupError):
            raise errors.NoSuchPath([0])
        with self.assertRaises(RuntimeError):
            raise errors.TooDeep()
        with self.assertRaises(ArithmeticError):
            raise errors.TooMany("places", 160)
