"""The refusals: one class for each, all under SumError."""


class SumError(ValueError):
    pass


class NoRatio(SumError):
    pass


class NoBook(SumError):
    pass


class NoMark(SumError):
    pass


class NoHouse(SumError):
    pass


class NoShare(SumError):
    # part is None where the house was tried in no part at all.
    def __init__(self, part, house):
        self.part = part
        self.house = house


class NoTable(SumError):
    pass


class NoWeights(SumError):
    pass


class NoLead(SumError):
    pass


class TooGreat(SumError):
    pass


class NoText(SumError):
    # Lines are numbered from 0.
    def __init__(self, line):
        self.line = line


class NoRow(SumError):
    pass


class NoName(SumError):
    pass


class NoBack(SumError):
    pass
