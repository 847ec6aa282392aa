"""The errors of the package, all of them below SheetError."""

class SheetError(ValueError):
    """What every error of this package is."""

class AlreadyTold(SheetError):
    """The learner has been told of this point."""

class BadAnswer(SheetError):
    """No answer of this question."""

class BadAt(SheetError):
    """No place of an order that can be exchanged with the next one."""

class BadBargains(SheetError):
    """No list of bargains."""

class BadBit(SheetError):
    """Neither the number 0 nor the number 1."""

class BadBits(SheetError):
    """No list of bits of a book; at is the first index that cannot stand."""
    def __init__(self, at):
        self.at = at

class BadBook(SheetError):
    """No book."""

class BadBox(SheetError):
    """No box of the sheet."""

class BadCell(SheetError):
    """No cell."""

class BadClaim(SheetError):
    """No claim of the sheet."""

class BadCourse(SheetError):
    """No course."""

class BadEdits(SheetError):
    """No list of edits; at is the first index that is none."""
    def __init__(self, at):
        self.at = at

class BadExpression(SheetError):
    """No expression, or none of this sheet."""

class BadFork(SheetError):
    """No fork."""

class BadForks(SheetError):
    """No list of forks of one order; at is the first index that is none."""
    def __init__(self, at):
        self.at = at

class BadGame(SheetError):
    """No game of the sheet."""

class BadGroup(SheetError):
    """No group of inputs."""

class BadIndexes(SheetError):
    """No indexes of wishes."""

class BadInner(SheetError):
    """No fork of the same order."""

class BadInputs(SheetError):
    """No list of different inputs."""

class BadLimit(SheetError):
    """No limit."""

class BadLot(SheetError):
    """No lot."""

class BadLots(SheetError):
    """No list of lots; word tells which one."""
    def __init__(self, word):
        self.word = word

class BadMany(SheetError):
    """No number of how many."""

class BadMost(SheetError):
    """No number of the most."""

class BadName(SheetError):
    """No name that can stand here."""

class BadNames(SheetError):
    """No names that can stand here."""

class BadNumber(SheetError):
    """No number that can stand here."""

class BadNumbers(SheetError):
    """No numbers of inputs."""

class BadOrder(SheetError):
    """No order, or not the one of these inputs."""

class BadPaper(SheetError):
    """No paper."""

class BadPart(SheetError):
    """No numbers of names of the order."""

class BadPath(SheetError):
    """No path of the sheet."""

class BadPlace(SheetError):
    """No place in a text."""

class BadPoint(SheetError):
    """No point."""

class BadPrice(SheetError):
    """No price."""

class BadPrices(SheetError):
    """No prices."""

class BadPromises(SheetError):
    """No list of different names."""

class BadQuestion(SheetError):
    """No question that can be asked."""

class BadScheme(SheetError):
    """No scheme."""

class BadSheet(SheetError):
    """No sheet, by its form."""

class BadSide(SheetError):
    """Neither mine nor other."""

class BadSides(SheetError):
    """Neither None nor prices."""

class BadSplit(SheetError):
    """The split at this path is wrong."""
    def __init__(self, path):
        self.path = path

class BadSpot(SheetError):
    """No spot of the sheet."""

class BadSpots(SheetError):
    """No list of different spots."""

class BadStretch(SheetError):
    """No stretch."""

class BadStretches(SheetError):
    """No list of stretches."""

class BadTable(SheetError):
    """No table of worths."""

class BadText(SheetError):
    """No text, or one with a word that cannot stand at this place."""
    def __init__(self, line, column, wanted):
        self.line = line
        self.column = column
        self.wanted = wanted

class BadTree(SheetError):
    """With this tree it is no sheet."""

class BadWeights(SheetError):
    """No weights."""

class BadWish(SheetError):
    """No wish of the sheet."""

class BadWishes(SheetError):
    """No list of wishes; at is the first index that is none."""
    def __init__(self, at):
        self.at = at

class BadWord(SheetError):
    """No word that can stand here."""

class BadWorth(SheetError):
    """No worth."""

class BadWorths(SheetError):
    """No list of as many worths."""

class Broken(SheetError):
    """The sheet does not keep its promises."""
    def __init__(self, breach):
        self.breach = breach

class Collides(SheetError):
    """The two lots collide by these parts."""
    def __init__(self, first, second):
        self.first = first
        self.second = second

class Ended(SheetError):
    """The machine is done."""

class Faulty(SheetError):
    """The sheet has faults; fault is the first one."""
    def __init__(self, fault):
        self.fault = fault

class IsSure(SheetError):
    """There is a plan with this price."""
    def __init__(self, price):
        self.price = price

class MatchOver(SheetError):
    """All inputs are set."""

class NoDifference(SheetError):
    """The guess has this worth there."""

class NoFit(SheetError):
    """The number at this place is not from low to high."""
    def __init__(self, line, column, low, high):
        self.line = line
        self.column = column
        self.low = low
        self.high = high

class NoPlace(SheetError):
    """The edit with this index has no place."""
    def __init__(self, at):
        self.at = at

class NoPlan(SheetError):
    """There is no plan from here."""

class NoRing(SheetError):
    """This is no cell of a ring."""
    def __init__(self, name):
        self.name = name

class NoTurn(SheetError):
    """The lot is no turn."""

class NoWall(SheetError):
    """The lot is no wall."""

class NotAsked(SheetError):
    """The learner does not ask."""

class NotGood(SheetError):
    """The lot with this number, 1 or 2, is not good."""
    def __init__(self, number):
        self.number = number

class NotGuessed(SheetError):
    """The learner does not guess."""

class NotKnown(SheetError):
    """The spot is not known yet."""

class NotLeast(SheetError):
    """The lot is not a least one."""

class NotMine(SheetError):
    """The next input is of another hand."""

class NotOpen(SheetError):
    """The worth is not open."""

class NotWritten(SheetError):
    """No text stands for this worth."""
    def __init__(self, worth):
        self.worth = worth

class NothingAsked(SheetError):
    """No answer can be taken back."""

class NothingDone(SheetError):
    """Nothing can be undone."""

class NothingSet(SheetError):
    """No number can be taken back."""

class NothingUndone(SheetError):
    """Nothing can be done again."""

class NowSo(SheetError):
    """The wishes are granted already."""

class OpenWorth(SheetError):
    """The worth is open at this point."""
    def __init__(self, point):
        self.point = point

class OtherInputs(SheetError):
    """The inputs are others."""

class OtherOrder(SheetError):
    """The order is another one."""

class TooMany(SheetError):
    """More than this many."""
    def __init__(self, most):
        self.most = most

class Unfit(SheetError):
    """The lot does not fit the sheet."""

class Wrong(SheetError):
    """The paper is wrong at this path."""
    def __init__(self, path, word):
        self.path = path
        self.word = word
