"""The errors of the package, and the check of a number that many functions share."""


class WarmthError(ValueError):
    """The base class of all errors of the package."""


class InvalidWeather(WarmthError):
    """A change is out of range, or there are none or too many."""

    def __init__(self, index):
        super().__init__(f"no valid change at the index {index}")
        self.index = index


class InvalidHeater(WarmthError):
    """A gain or a threshold is out of range, or the thresholds are in the wrong order."""


class InvalidNumber(WarmthError):
    """A number is out of range."""


class OtherWeather(WarmthError):
    """Two rooms do not have equal weather."""


class Contradiction(WarmthError):
    """No thresholds agree with what was seen."""


def check_number(number, least, greatest):
    """Raise InvalidNumber unless the number is from the least to the greatest one."""
    if not least <= number <= greatest:
        raise InvalidNumber("the number is out of range")
