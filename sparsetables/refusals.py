"""The refusals: an error class for each, raised where a call can't be taken."""


class OutOfRange(Exception):
    # Told as -1.
    pass


class WrongForm(Exception):
    # Told as -2.
    pass


class UseNotThere(Exception):
    # Told as -3.
    pass


class TooMany(Exception):
    # Told as -7.
    pass


class NoPoint(Exception):
    # Told as -4.
    pass


class RunFault(Exception):
    # Told as -5.
    pass


class NotProper(Exception):
    # Told as -8.
    pass


class TooHeavy(Exception):
    # Told as -6.
    pass
