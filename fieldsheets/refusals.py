"""Why a call is refused: one error for each refusal, with the number that's answered."""


class WrongInput(Exception):
    """A row isn't so, a number is out of its range, or a name is no dial's, in whatever sheet."""

    def __init__(self):
        self.refusal = -1


class TooLong(Exception):
    """The text has more bytes than may be handed over."""

    def __init__(self):
        self.refusal = -2


class NotASheet(Exception):
    """The text is no camera sheet's."""

    def __init__(self, fault):
        self.refusal = -6
        self.fault = fault


class NotThere(Exception):
    """The sheet has no such part."""

    def __init__(self):
        self.refusal = -4
