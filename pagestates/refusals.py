"""The refusals: one error class for each, with the number that is answered."""


class Refusal(Exception):
    def __init__(self, number):
        self.number = number


class WrongText(Refusal):
    def __init__(self):
        Refusal.__init__(self, -1)


class WrongKind(Refusal):
    def __init__(self):
        Refusal.__init__(self, -2)


class NoSuchBox(Refusal):
    def __init__(self):
        Refusal.__init__(self, -3)


class DoesNothing(Refusal):
    def __init__(self):
        Refusal.__init__(self, -5)


class CannotBePressed(Refusal):
    def __init__(self):
        Refusal.__init__(self, -6)


class TooManyStates(Refusal):
    def __init__(self):
        Refusal.__init__(self, -7)
