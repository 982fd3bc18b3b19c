"""The errors of the package. Each one keeps its fields, whatever they are."""


class LandError(ValueError):
    """The base of the errors about values that cannot stand."""


class InvalidMachine(LandError):
    def __init__(self, reason):
        self.reason = reason


class InvalidCode(LandError):
    def __init__(self, reason, row):
        self.reason = reason
        self.row = row


class InvalidWay(LandError):
    def __init__(self, index):
        self.index = index


class InvalidBreaks(LandError):
    def __init__(self, index):
        self.index = index


class InvalidMap(LandError):
    def __init__(self, index):
        self.index = index


class InvalidText(LandError):
    def __init__(self, line, word):
        self.line = line
        self.word = word


class InvalidLimit(LandError):
    def __init__(self, value):
        self.value = value


class Clash(LandError):
    def __init__(self, way, name):
        self.way = way
        self.name = name


class UnknownCommand(LandError):
    def __init__(self, line):
        self.line = line


class NoName(KeyError):
    def __init__(self, name):
        self.name = name


class NoPoint(KeyError):
    def __init__(self, point):
        self.point = point


class NoRow(IndexError):
    def __init__(self, row):
        self.row = row


class NoStep(IndexError):
    def __init__(self, step):
        self.step = step


class NothingToUndo(LookupError):
    def __init__(self, count):
        self.count = count


class Ended(RuntimeError):
    """The code has ended."""


class HeldGap(RuntimeError):
    def __init__(self, row):
        self.row = row


class NoWay(RuntimeError):
    def __init__(self, row):
        self.row = row


class TooMany(OverflowError):
    def __init__(self, most):
        self.most = most
