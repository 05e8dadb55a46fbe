"""The refusals: one error class each, with the number that is answered."""


class Refusal(Exception):
    def __init__(self, number):
        self.number = number


class NotAProgram(Refusal):
    def __init__(self):
        Refusal.__init__(self, -1)


class NotALength(Refusal):
    def __init__(self):
        Refusal.__init__(self, -2)


class NotAnInput(Refusal):
    def __init__(self):
        Refusal.__init__(self, -2)


class NoSuchNode(Refusal):
    def __init__(self):
        Refusal.__init__(self, -3)


class NotAGraph(Refusal):
    def __init__(self):
        Refusal.__init__(self, -4)


class NotACall(Refusal):
    def __init__(self):
        Refusal.__init__(self, -5)


class CannotBePlaced(Refusal):
    def __init__(self):
        Refusal.__init__(self, -6)


class TableTooLarge(Refusal):
    def __init__(self):
        Refusal.__init__(self, -7)


class NoProgramComes(Refusal):
    def __init__(self):
        Refusal.__init__(self, -8)
