"""The refusals of the program, one class for each kind."""


class HouseError(ValueError):
    """Any refusal."""


class BadHouse(HouseError):
    """What was given makes no house."""


class BadGuess(HouseError):
    """What was given is no guess of the house."""


class BadDeed(HouseError):
    """What was given is no deed of the house."""


class BadPlan(HouseError):
    """What was given is no plan of the house."""


class BadSteps(HouseError):
    """What was given is no number of steps."""


class NoWay(HouseError):
    """The plan has no way for what is seen."""


class BadText(HouseError):
    """The text writes no plan."""
