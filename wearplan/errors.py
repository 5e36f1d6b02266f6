"""The errors with which wearplan refuses what is handed in."""


class WearError(ValueError):
    """Above every error of this package."""


class NoPart(WearError):
    """A part's field number at is not one."""

    def __init__(self, at):
        self.at = at


class NoWorks(WearError):
    """A works' field number at is not one."""

    def __init__(self, at):
        self.at = at


class NoStands(WearError):
    """A stand, or a row of them, is none."""


class NoRounds(WearError):
    """A round's number, or a number of rounds, is none."""


class NoPlan(WearError):
    """Entry number at of a plan is no choice, or at -1 the whole is no plan."""

    def __init__(self, at):
        self.at = at


class Shut(WearError):
    """In that round nothing may be changed."""

    def __init__(self, round_number):
        self.round_number = round_number


class Falls(WearError):
    """In that round that part comes below its mark."""

    def __init__(self, round_number, part_number):
        self.round_number = round_number
        self.part_number = part_number


class NoneHolds(WearError):
    """There is no way by which no part falls."""


class TooGreat(WearError):
    """There is more of something than the most that is taken."""

    def __init__(self, most):
        self.most = most


class NoPaper(WearError):
    """A paper, or what one is made of, is none."""


class NoText(WearError):
    """Line number row of a text is not as it is read."""

    def __init__(self, row):
        self.row = row


class NotTold(WearError):
    """What is spoken of is not there, or is there already."""
