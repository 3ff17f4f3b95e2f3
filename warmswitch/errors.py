"""The errors of the package, and the check of a number that many functions share."""


class WarmthError(ValueError):
    """The base class of all errors of the package."""


class InvalidWeather(WarmthError):
    """A change is out of range, or there are none or too many."""

    def __init__(self, index):
        super().__init__(f"no valid change at the index {index}")
        self.index = index


class InvalidHeater(WarmthError):
    """A gain or a threshold is out of range, or the thresholds are in the wrong order."""


class InvalidNumber(WarmthError):
    """A number is out of range."""


class OtherWeather(WarmthError):
    """Two rooms do not have equal weather."""


class Contradiction(WarmthError):
    """No thresholds agree with what was seen."""


class InvalidSetting(WarmthError):
    """Thresholds, a part or the length of a day, or a rest cannot be."""

    def __init__(self, index):
        super().__init__(f"no valid setting, for what has the index {index}")
        self.index = index


class InvalidPrices(WarmthError):
    """A price is out of range, or there are none or too many."""

    def __init__(self, index):
        super().__init__(f"no valid price at the index {index}")
        self.index = index


class InvalidOperation(WarmthError):
    """A tuple has none of the forms of operations."""

    def __init__(self, index):
        super().__init__(f"no operation at the index {index}")
        self.index = index


class InvalidReport(WarmthError):
    """A line of a report is not well formed."""

    def __init__(self, row):
        super().__init__(f"no line of a report in the row {row}")
        self.row = row


def check_number(number, least, greatest):
    """Raise InvalidNumber unless the number is from the least to the greatest one."""
    if not least <= number <= greatest:
        raise InvalidNumber("the number is out of range")
