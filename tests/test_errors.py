import re
import unittest

from whysheets import errors

TOLD = """AlreadyTold, BadAnswer, BadAt, BadBargains, BadBit, BadBits(at), BadBook, BadBox, BadCell, BadClaim,
BadCourse, BadEdits(at), BadExpression, BadFork, BadForks(at), BadGame, BadGroup, BadIndexes, BadInner, BadInputs,
BadLimit, BadLot, BadLots(word), BadMany, BadMost, BadName, BadNames, BadNumber, BadNumbers, BadOrder, BadPaper,
BadPart, BadPath, BadPlace, BadPoint, BadPrice, BadPrices, BadPromises, BadQuestion, BadScheme, BadSheet, BadSide,
BadSides, BadSplit(path), BadSpot, BadSpots, BadStretch, BadStretches, BadTable, BadText(line, column, wanted),
BadTree, BadWeights, BadWish, BadWishes(at), BadWord, BadWorth, BadWorths, Broken(breach),
Collides(first, second), Ended, Faulty(fault), IsSure(price), MatchOver, NoDifference,
NoFit(line, column, low, high), NoPlace(at), NoPlan, NoRing(name), NoTurn, NoWall, NotAsked, NotGood(number),
NotGuessed, NotKnown, NotLeast, NotMine, NotOpen, NotWritten(worth), NothingAsked, NothingDone, NothingSet,
NothingUndone, NowSo, OpenWorth(point), OtherInputs, OtherOrder, TooMany(most), Unfit, Wrong(path, word)"""


def told_classes():
    found = {}
    for match in re.finditer(r"(\w+)(?:\(([^)]*)\))?", TOLD):
        found[match.group(1)] = match.group(2).split(", ") if match.group(2) else []
    return found


class ErrorsTest(unittest.TestCase):
    def test_sheet_error_is_below_value_error(self):
        self.assertEqual(errors.SheetError.__bases__, (ValueError,))

    def test_all_are_directly_below_sheet_error(self):
        for name in told_classes():
            with self.subTest(name=name):
                self.assertEqual(getattr(errors, name).__bases__, (errors.SheetError,))

    def test_no_other_class_is_there(self):
        found = {name for name, thing in vars(errors).items() if isinstance(thing, type)}
        self.assertEqual(found, set(told_classes()) | {"SheetError"})

    def test_attributes_are_set_by_position(self):
        for name, attributes in told_classes().items():
            passed = [f"{name} {attribute}" for attribute in attributes]
            error = getattr(errors, name)(*passed) if attributes else getattr(errors, name)("a message")
            for attribute, value in zip(attributes, passed):
                self.assertEqual(getattr(error, attribute), value)

    def test_attributes_are_set_by_name(self):
        for name, attributes in told_classes().items():
            if attributes:
                passed = {attribute: (name, attribute) for attribute in attributes}
                error = getattr(errors, name)(**passed)
                self.assertEqual(vars(error), passed)

    def test_those_without_attributes_have_a_message(self):
        for name, attributes in told_classes().items():
            if not attributes:
                self.assertEqual(str(getattr(errors, name)("a message")), "a message")


if __name__ == "__main__":
    unittest.main()
