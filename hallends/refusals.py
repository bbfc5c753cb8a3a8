"""The refusals: each is an error that carries the numbers answered for it."""


class Refusal(Exception):
    """A call is refused; told is the whole answer."""

    def __init__(self, told):
        Exception.__init__(self)
        self.told = told


class WrongMost(Refusal):
    def __init__(self):
        Refusal.__init__(self, [-1])


class NoSuchPosition(Refusal):
    def __init__(self):
        Refusal.__init__(self, [-2])


class NothingThere(Refusal):
    """There are no rules yet, or nothing is held."""

    def __init__(self):
        Refusal.__init__(self, [-3])


class AlreadyOver(Refusal):
    """A position that is over has no best move."""

    def __init__(self):
        Refusal.__init__(self, [-4])


class LineAtFault(Refusal):
    def __init__(self, kind, place):
        Refusal.__init__(self, [-5, kind, place])


class RulesAtFault(Refusal):
    def __init__(self, kind, place):
        Refusal.__init__(self, [-6, kind, place])


class TooMany(Refusal):
    def __init__(self):
        Refusal.__init__(self, [-9])
