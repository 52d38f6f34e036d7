"""The errors with which the package refuses what it is handed."""


class ManyshapedError(ValueError):
    """Any refusal of this package."""


class BadShape(ManyshapedError):
    """What should be a shape is none, or two shapes are not the same."""


class BadSystem(ManyshapedError):
    """What should be a system is none, or is beyond the bounds."""


class BadState(ManyshapedError):
    """What should be a state of a system is none."""


class BadFormula(ManyshapedError):
    """What should be a formula of a shape is none."""


class BadMap(ManyshapedError):
    """What should be a list of states, one for each state, is none."""


class TooMuch(ManyshapedError):
    """What is asked for would be too large."""
