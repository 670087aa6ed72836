"""The refusals of the program, one class for each."""


class SightError(ValueError):
    pass


class NoHall(SightError):
    def __init__(self, side):
        self.side = side


class NoText(SightError):
    def __init__(self, word):
        self.word = word


class NoPerson(SightError):
    def __init__(self, number):
        self.number = number


class NoHiding(SightError):
    def __init__(self, dx, dy):
        self.dx = dx
        self.dy = dy


class NoRing(SightError):
    def __init__(self, point):
        self.point = point


class NoRow(SightError):
    pass


class NoName(SightError):
    pass
