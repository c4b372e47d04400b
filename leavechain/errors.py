"""The refusals: each one stands straight under HallError."""


class HallError(ValueError):
    """Any refusal."""


class NoHall(HallError):
    """What was handed in makes no hall, no ledger."""


class NoRoom(HallError):
    """There is no room of that name."""


class NoLeave(HallError):
    """There is no leave of that number, or none that can still be taken back."""


class NoGift(HallError):
    """What is to be given makes no leave, or one that is over already."""


class NotLet(HallError):
    """The actor may not do this."""


class NoMoment(HallError):
    """That is no moment to which a ledger can be moved on."""


class NoActor(HallError):
    """There is no actor of that name."""


class Done(HallError):
    """The actor is at its end."""


class TooMany(HallError):
    """The programs can be woven in too many ways."""


class NoText(HallError):
    """A text that can not be read; row is the number of the row that is refused."""

    def __init__(self, row):
        super().__init__(f"the text is refused at row {row}")
        self.row = row


class NoLog(HallError):
    """A bare log that can not be; row is the number of the row that is refused."""

    def __init__(self, row):
        super().__init__(f"the log is refused at row {row}")
        self.row = row
