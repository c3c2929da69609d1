"""The refusals, in their two families."""


class BillError(ValueError):
    """What is handed in isn't so."""


class LostError(LookupError):
    """What is asked for isn't there."""


class NoPage(BillError):
    """A thing is no PAGE, or can't come beside those that are there."""

    def __init__(self, word):
        self.word = word


class NoPaper(BillError):
    """A checker doesn't let a paper by."""

    def __init__(self, word, at):
        self.word = word
        self.at = at


class NoFires(BillError):
    """No FIRES, however many, are enough."""

    def __init__(self, stretch):
        self.stretch = stretch


class NoText(BillError):
    """A text doesn't write what it is read as."""

    def __init__(self, line, word):
        self.line = line
        self.word = word


class NoRow(BillError):
    """A row told to a desk is of no form."""

    def __init__(self, row):
        self.row = row


class NoItem(LostError):
    """The MENU has no such ITEM."""

    def __init__(self, item):
        self.item = item


class NoDish(LostError):
    """No such DISH is there."""

    def __init__(self, dish):
        self.dish = dish


class NoSeat(LostError):
    """No such SEAT is known."""

    def __init__(self, seat):
        self.seat = seat


class NoBack(LostError):
    """There are not so many STEPS to undo."""

    def __init__(self, times):
        self.times = times
