"""The errors of the package. Each one has the attribute `code`, the name of its class."""


class TurnError(ValueError):
    """A value that is passed is wrong, or does not fit the others."""


class BadRatio(TurnError):
    """No ratio."""
    def __init__(self):
        self.code = "BadRatio"


class BadText(TurnError):
    """No text in the documented form."""
    def __init__(self):
        self.code = "BadText"


class BadLine(TurnError):
    """A line of the text of a bench is wrong."""
    def __init__(self, line):
        self.line = line
        self.code = "BadLine"


class BadTop(TurnError):
    """The top of a line is no length."""
    def __init__(self):
        self.code = "BadTop"


class BadStart(TurnError):
    """A start is no ratio from 1 on."""
    def __init__(self):
        self.code = "BadStart"


class BadLength(TurnError):
    """The value with this index is no length."""
    def __init__(self, at):
        self.at = at
        self.code = "BadLength"


class BadOrder(TurnError):
    """No list that has each of its indexes once."""
    def __init__(self):
        self.code = "BadOrder"


class BadRow(TurnError):
    """The row with this index is wrong, with -1 the list itself."""
    def __init__(self, at):
        self.at = at
        self.code = "BadRow"


class OffLine(TurnError):
    """The row with this index leaves the line."""
    def __init__(self, at):
        self.at = at
        self.code = "OffLine"


class Overlap(TurnError):
    """Two rows meet."""
    def __init__(self, one, other):
        self.one = one
        self.other = other
        self.code = "Overlap"


class NotFilled(TurnError):
    """The rows leave this much of the line free."""
    def __init__(self, missing):
        self.missing = missing
        self.code = "NotFilled"


class OtherLine(TurnError):
    """The lines have different tops."""
    def __init__(self):
        self.code = "OtherLine"


class BadRoom(TurnError):
    """No room for a course."""
    def __init__(self):
        self.code = "BadRoom"


class BadSwap(TurnError):
    """The swap with this index is wrong, with -1 the list itself."""
    def __init__(self, at):
        self.at = at
        self.code = "BadSwap"


class Meet(TurnError):
    """The two stretches of a swap meet."""
    def __init__(self):
        self.code = "Meet"


class BadWedge(TurnError):
    """No numbers and bits of a wedge."""
    def __init__(self):
        self.code = "BadWedge"


class BadReading(TurnError):
    """No weights, bits and modulus of a reading."""
    def __init__(self):
        self.code = "BadReading"


class BadWindow(TurnError):
    """No window of the line."""
    def __init__(self):
        self.code = "BadWindow"


class BadName(TurnError):
    """No name."""
    def __init__(self, value):
        self.value = value
        self.code = "BadName"


class BadNumber(TurnError):
    """No number of the wished kind."""
    def __init__(self, value):
        self.value = value
        self.code = "BadNumber"


class BadDeed(TurnError):
    """The deed with this index is none."""
    def __init__(self, at):
        self.at = at
        self.code = "BadDeed"


class BadExchange(TurnError):
    """No exchange."""
    def __init__(self):
        self.code = "BadExchange"


class BadLimit(TurnError):
    """No limit of a bench."""
    def __init__(self, value):
        self.value = value
        self.code = "BadLimit"


class Double(TurnError):
    """A line has this name already."""
    def __init__(self, name):
        self.name = name
        self.code = "Double"


class TooMany(TurnError):
    """More lines than a bench keeps."""
    def __init__(self, most):
        self.most = most
        self.code = "TooMany"


class Unlike(TurnError):
    """A colour has not the same amount in both paintings."""
    def __init__(self, colour):
        self.colour = colour
        self.code = "Unlike"


class OtherSteps(TurnError):
    """The scales have different steps."""
    def __init__(self):
        self.code = "OtherSteps"


class NothingLeft(TurnError):
    """A whole partial exchange has another wedge."""
    def __init__(self):
        self.code = "NothingLeft"


class OwesMore(TurnError):
    """A line owes more turns than the limit."""
    def __init__(self, name):
        self.name = name
        self.code = "OwesMore"


class NotThere(LookupError):
    """What is asked for is not there."""


class NotOnLine(NotThere):
    """No tone of the line."""
    def __init__(self, tone):
        self.tone = tone
        self.code = "NotOnLine"


class NoPrime(NotThere):
    """None of the six primes."""
    def __init__(self, value):
        self.value = value
        self.code = "NoPrime"


class UnknownName(NotThere):
    """No line has this name."""
    def __init__(self, name):
        self.name = name
        self.code = "UnknownName"


class NotIn(NotThere):
    """The vector is not in the lattice."""
    def __init__(self):
        self.code = "NotIn"


class Impossible(ArithmeticError):
    """What is wished cannot be done."""


class NotFair(Impossible):
    """The table is not flat at these primes."""
    def __init__(self, first, second):
        self.first = first
        self.second = second
        self.code = "NotFair"


class NotKept(Impossible):
    """The course does not put the wide line in order again."""
    def __init__(self):
        self.code = "NotKept"


class Odd(Impossible):
    """The bit of this prime is 1."""
    def __init__(self, prime):
        self.prime = prime
        self.code = "Odd"


class NoRoot(Impossible):
    """The number at these primes is not divisible."""
    def __init__(self, first, second):
        self.first = first
        self.second = second
        self.code = "NoRoot"


class Unfit(Impossible):
    """No reading fits, as these counts show."""
    def __init__(self, counts):
        self.counts = counts
        self.code = "Unfit"


class Unmade(Impossible):
    """The exchange is not made, as this reading shows."""
    def __init__(self, reading):
        self.reading = reading
        self.code = "Unmade"


class TooLong(Impossible):
    """More than this many would be needed."""
    def __init__(self, most):
        self.most = most
        self.code = "TooLong"


class Level(Impossible):
    """The lengths of the turn are equal."""
    def __init__(self):
        self.code = "Level"


class NoEntry(IndexError):
    """There is nothing to take back or to do again."""
    def __init__(self):
        self.code = "NoEntry"
