"""The errors that the program raises, each kind under one of three base classes."""


class WrongValue(ValueError):
    """What was passed has not the kind or the form that is asked for."""


class InvalidText(WrongValue):
    """No text of the form that is asked for."""

    def __init__(self, given):
        self.given = given


class InvalidRow(WrongValue):
    """No row."""

    def __init__(self, given):
        self.given = given


class InvalidNumber(WrongValue):
    """No integer within the bounds that are told."""

    def __init__(self, given):
        self.given = given


class InvalidPart(WrongValue):
    """No integer from 1 on."""

    def __init__(self, given):
        self.given = given


class InvalidName(WrongValue):
    """No name."""

    def __init__(self, given):
        self.given = given


class InvalidWish(WrongValue):
    """No promise of the form that is asked for."""

    def __init__(self, given):
        self.given = given


class InvalidCommand(WrongValue):
    """No command."""

    def __init__(self, given):
        self.given = given


class NotARule(WrongValue):
    """Neither a cap rule nor a ban rule."""

    def __init__(self, given):
        self.given = given


class NotCaps(WrongValue):
    """No cap rule."""

    def __init__(self, given):
        self.given = given


class NotBans(WrongValue):
    """No ban rule."""

    def __init__(self, given):
        self.given = given


class NotATally(WrongValue):
    """No tally."""

    def __init__(self, given):
        self.given = given


class NotASighting(WrongValue):
    """No sighting."""

    def __init__(self, given):
        self.given = given


class InvalidHead(WrongValue):
    """No tuple of caps for the first sizes."""

    def __init__(self, index):
        self.index = index


class InvalidTail(WrongValue):
    """No tuple of caps that come again and again."""

    def __init__(self, index):
        self.index = index


class InvalidBans(WrongValue):
    """No ascending tuple of bans."""

    def __init__(self, index):
        self.index = index


class InvalidRows(WrongValue):
    """No tuple of rows."""

    def __init__(self, index):
        self.index = index


class InvalidFeet(WrongValue):
    """No feet of a row."""

    def __init__(self, index):
        self.index = index


class InvalidSizes(WrongValue):
    """No ascending tuple of sizes."""

    def __init__(self, index):
        self.index = index


class InvalidPairing(WrongValue):
    """No pairing of the bans of two rules."""

    def __init__(self, index):
        self.index = index


class InvalidThreads(WrongValue):
    """No tuple of a thread for each rod."""

    def __init__(self, index):
        self.index = index


class InvalidFactors(WrongValue):
    """No tuple of factors."""

    def __init__(self, index):
        self.index = index


class InvalidCounts(WrongValue):
    """No tuple of counts."""

    def __init__(self, index):
        self.index = index


class InvalidLet(WrongValue):
    """No tuple of rows that are let."""

    def __init__(self, index):
        self.index = index


class InvalidBarred(WrongValue):
    """No tuple of rows that are not let."""

    def __init__(self, index):
        self.index = index


class InvalidGaps(WrongValue):
    """No gaps of a row."""

    def __init__(self, index):
        self.index = index


class InvalidVector(WrongValue):
    """No vector of a core."""

    def __init__(self, index):
        self.index = index


class InvalidLog(WrongValue):
    """No log of changes that can be played."""

    def __init__(self, index):
        self.index = index


class WrongName(LookupError):
    """What was named is not there, or is in use."""


class UnknownName(WrongName):
    """No such name is there."""

    def __init__(self, given):
        self.given = given


class InUse(WrongName):
    """A promise has this name."""

    def __init__(self, index):
        self.index = index


class NoSuchPart(WrongName):
    """No such part is in the row."""

    def __init__(self, given):
        self.given = given


class NotPossible(ArithmeticError):
    """What was asked for cannot be done with these values."""


class TooMany(NotPossible):
    """More than can be told."""

    def __init__(self, given):
        self.given = given


class NotLet(NotPossible):
    """The row is not let."""

    def __init__(self, given):
        self.given = given


class NotUnlike(NotPossible):
    """The row has like parts."""

    def __init__(self, given):
        self.given = given


class NotAlike(NotPossible):
    """The rules are not alike; the first number of which they let unequally many is given."""

    def __init__(self, given):
        self.given = given


class NotEven(NotPossible):
    """The pairing is not even; a choice whose joins have unlike sums is given."""

    def __init__(self, given):
        self.given = given


class NotACore(NotPossible):
    """The row can be struck."""

    def __init__(self, given):
        self.given = given


class NotPerfect(NotPossible):
    """The row does not pay each number in just one way."""

    def __init__(self, given):
        self.given = given


class NotBalanced(NotPossible):
    """The row does not weigh each number in just one way."""

    def __init__(self, given):
        self.given = given


class NotOdd(NotPossible):
    """The row has an even part."""

    def __init__(self, given):
        self.given = given


class NotOwn(NotPossible):
    """The row is not its own turned row."""

    def __init__(self, given):
        self.given = given


class NotApart(NotPossible):
    """The parts of the row are not as far apart as is asked for."""

    def __init__(self, given):
        self.given = given


class NoFit(NotPossible):
    """No rule fits."""


class NothingToUndo(NotPossible):
    """No change is left that can be taken back."""


class Broken(NotPossible):
    """A promise does not hold."""

    def __init__(self, index):
        self.index = index
