"""The errors by which a desk and its works refuse what is asked of them.

As in errors, the messages name no values: these are told by the attributes.
"""

from keptbase.errors import KeptError


class InvalidMode(KeptError):
    def __init__(self, mode):
        super().__init__("there is no such mode of a desk")
        self.mode = mode


class NameTaken(KeptError):
    def __init__(self, name):
        super().__init__("the name is taken already")
        self.name = name


class NoSuchName(KeptError):
    def __init__(self, name):
        super().__init__("nothing has this name")
        self.name = name


class NoSuchVersion(KeptError):
    def __init__(self, number):
        super().__init__("there is no version with this number")
        self.number = number


class Over(KeptError):
    def __init__(self, name):
        super().__init__("the work is over")
        self.name = name


class Overtaken(KeptError):
    def __init__(self, cell):
        super().__init__("the newest store has something else in a cell that the work has found")
        self.cell = cell


class Broken(KeptError):
    def __init__(self, rule):
        super().__init__("a store would break a rule")
        self.rule = rule


class Ringed(KeptError):
    def __init__(self, ring_names):
        super().__init__("the history would have a ring")
        self.ring_names = ring_names


class Unmatched(KeptError):
    def __init__(self, name):
        super().__init__("the log would have no matching order")
        self.name = name


class Busy(KeptError):
    def __init__(self, name):
        super().__init__("a work is open")
        self.name = name


class Heard(KeptError):
    def __init__(self, name):
        super().__init__("another commit has heard of this one")
        self.name = name
