"""The errors of the package, one class for each kind of failure.

The messages are fixed: a value of any size may be wrong, and very long integers cannot be written out.
"""


class RingError(ValueError):
    """The base class of the errors about values that are wrong."""


class Missing(LookupError):
    """The base class of the errors about names and numbers that are not there."""


class InvalidNumber(RingError):
    def __init__(self, given):
        super().__init__("a number is none or is out of its bounds")
        self.given = given
        self.code = "InvalidNumber"


class InvalidThing(RingError):
    def __init__(self, given):
        super().__init__("a value is no thing of the ring")
        self.given = given
        self.code = "InvalidThing"


class InvalidRing(RingError):
    def __init__(self, given):
        super().__init__("a value is no ring, or no ring that can stand here")
        self.given = given
        self.code = "InvalidRing"


class InvalidTable(RingError):
    def __init__(self, rule):
        super().__init__("a table is no table of this sort")
        self.rule = rule
        self.code = "InvalidTable"


class InvalidName(RingError):
    def __init__(self, given):
        super().__init__("a value is no name")
        self.given = given
        self.code = "InvalidName"


class InvalidTerm(RingError):
    def __init__(self, at):
        super().__init__("a value is no term")
        self.at = at
        self.code = "InvalidTerm"


class InvalidHead(RingError):
    def __init__(self, part):
        super().__init__("a part beside the steps is wrong")
        self.part = part
        self.code = "InvalidHead"


class InvalidStep(RingError):
    def __init__(self, procedure, at):
        super().__init__("a step is wrong")
        self.procedure = procedure
        self.at = at
        self.code = "InvalidStep"


class InvalidText(RingError):
    def __init__(self, line):
        super().__init__("a text is not of its form")
        self.line = line
        self.code = "InvalidText"


class InvalidLine(RingError):
    def __init__(self, at):
        super().__init__("a line is wrong")
        self.at = at
        self.code = "InvalidLine"


class InvalidProduct(RingError):
    def __init__(self, at):
        super().__init__("a product of a scheme is wrong")
        self.at = at
        self.code = "InvalidProduct"


class InvalidOrder(RingError):
    def __init__(self, given):
        super().__init__("a value is no order of the three roles")
        self.given = given
        self.code = "InvalidOrder"


class InvalidCommand(RingError):
    def __init__(self, at):
        super().__init__("a value is no command")
        self.at = at
        self.code = "InvalidCommand"


class DegreeTooHigh(RingError):
    def __init__(self, at):
        super().__init__("a degree is above 2")
        self.at = at
        self.code = "DegreeTooHigh"


class NoInverse(RingError):
    def __init__(self, number):
        super().__init__("a number has no inverse")
        self.number = number
        self.code = "NoInverse"


class NotCommuting(RingError):
    def __init__(self):
        super().__init__("products of the base do not commute")
        self.code = "NotCommuting"


class NotWhole(RingError):
    def __init__(self, at):
        super().__init__("a share is not whole")
        self.at = at
        self.code = "NotWhole"


class NotStraight(RingError):
    def __init__(self, at):
        super().__init__("a step or an output is not of the straight form")
        self.at = at
        self.code = "NotStraight"


class NoUnit(RingError):
    def __init__(self, at):
        super().__init__("a table has no entry 1 or -1")
        self.at = at
        self.code = "NoUnit"


class Unused(RingError):
    def __init__(self, name):
        super().__init__("an input or a line is not used")
        self.name = name
        self.code = "Unused"


class WrongCount(RingError):
    def __init__(self, given):
        super().__init__("there are more or fewer values than there can be")
        self.given = given
        self.code = "WrongCount"


class TooMany(RingError):
    def __init__(self, most):
        super().__init__("there is more than the most that can be")
        self.most = most
        self.code = "TooMany"


class TooGreat(RingError):
    def __init__(self, most):
        super().__init__("a number is greater than the most that can be")
        self.most = most
        self.code = "TooGreat"


class EmptyRealm(RingError):
    def __init__(self):
        super().__init__("the realm has no ring")
        self.code = "EmptyRealm"


class Unsound(RingError):
    def __init__(self, number):
        super().__init__("a verdict does not go with the others")
        self.number = number
        self.code = "Unsound"


class DuplicateName(RingError):
    def __init__(self, name):
        super().__init__("a name is used already")
        self.name = name
        self.code = "DuplicateName"


class InUse(RingError):
    def __init__(self, number):
        super().__init__("a promise has this name")
        self.number = number
        self.code = "InUse"


class Broken(RingError):
    def __init__(self, number):
        super().__init__("a promise would not hold")
        self.number = number
        self.code = "Broken"


class Full(RingError):
    def __init__(self, most):
        super().__init__("there is no place for more")
        self.most = most
        self.code = "Full"


class UnknownName(Missing):
    def __init__(self, name):
        super().__init__("nothing has this name")
        self.name = name
        self.code = "UnknownName"


class UnknownNumber(Missing):
    def __init__(self, number):
        super().__init__("nothing has this number")
        self.number = number
        self.code = "UnknownNumber"


class NothingLeft(IndexError):
    def __init__(self):
        super().__init__("there is no step left")
        self.code = "NothingLeft"
