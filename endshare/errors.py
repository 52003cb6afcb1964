"""The refusals: every one is a ShareError, and tells its values as attributes."""


class ShareError(ValueError):
    """Any refusal."""


class BadFields(ShareError):
    """The field of this number cannot be beside those ahead of it."""

    def __init__(self, number):
        super().__init__(f"field {number} cannot be")
        self.number = number


class BadHand(ShareError):
    """The part of a hand that has this name cannot be."""

    def __init__(self, why):
        super().__init__(f"a hand cannot have this {why}")
        self.why = why


class BadMemory(ShareError):
    """A memory has other cells than its room, or a cell that cannot be."""

    def __init__(self, at):
        super().__init__(f"the memory cannot be at {at}")
        self.at = at


class NoField(ShareError):
    """No field has this name."""


class BadNumber(ShareError):
    """A number cannot be where it is given."""


class BadDeed(ShareError):
    """The deed of this number, of the hand of that one, cannot be."""

    def __init__(self, hand, number):
        super().__init__(f"deed {number} of hand {hand} cannot be")
        self.hand = hand
        self.number = number


class BadText(ShareError):
    """The word at this place of a text cannot be read."""

    def __init__(self, place):
        super().__init__(f"word {place} cannot be read")
        self.place = place
