"""What Writeways refuses: one class for each kind of refusal."""


class WayError(ValueError):
    """Any refusal."""


class BadRule(WayError):
    """A rule that can't be, one too many, or none at all."""

    def __init__(self, number):
        super().__init__(f"rule {number} can't be")
        self.number = number


class BadHands(WayError):
    """A count of hands that can't be."""


class BadHand(WayError):
    """A hand that isn't there."""


class BadPlace(WayError):
    """A place where no cell is."""


class BadNumber(WayError):
    """A number that no cell holds."""


class BadDeed(WayError):
    """A deed, an ask or a block that can't be, or one too many."""

    def __init__(self, number):
        super().__init__(f"deed {number} can't be")
        self.number = number


class BadRoom(WayError):
    """A level without a room, or a count of halls that can't be."""


class BadWays(WayError):
    """A count of ways that can't be."""


class BadLeavings(WayError):
    """A leaving that can't be, that lacks or that is too much."""

    def __init__(self, number):
        super().__init__(f"leaving {number} can't be")
        self.number = number


class BadText(WayError):
    """A text with a row that can't be there."""

    def __init__(self, row):
        super().__init__(f"row {row} can't be there")
        self.row = row
