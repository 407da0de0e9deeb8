"""The refusals, one class for each kind."""


class PickError(ValueError):
    """Any refusal."""


class NoChoice(PickError):
    """There is no such choice, or none at all."""


class NoThing(PickError):
    """What is told is no thing, or a thing stands twice."""


class NoExchange(PickError):
    """An exchange between two choices is missing."""


class NoWeights(PickError):
    """There is not a weight for each thing."""


class NoRule(PickError):
    """A text tells no rule."""
