"""The refusals: one error class for each number that is answered alone."""


class Refusal(Exception):
    def __init__(self, number):
        Exception.__init__(self)
        self.number = number


class OutOfRange(Refusal):
    def __init__(self):
        Refusal.__init__(self, -2)


class NoProgram(Refusal):
    def __init__(self):
        Refusal.__init__(self, -3)


class WrongName(Refusal):
    def __init__(self):
        Refusal.__init__(self, -11)


class DividedByZero(Refusal):
    def __init__(self):
        Refusal.__init__(self, -12)


class TooMany(Refusal):
    def __init__(self):
        Refusal.__init__(self, -13)


class NoStepLeft(Refusal):
    def __init__(self):
        Refusal.__init__(self, -5)


class NotAllOver(Refusal):
    def __init__(self):
        Refusal.__init__(self, -6)


class TooLong(Refusal):
    def __init__(self):
        Refusal.__init__(self, -1)
