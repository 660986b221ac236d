"""The errors by which a call is refused, one for each refusal."""


class WrongText(ValueError):
    """The text is not of the form that the call asks for."""


class NoSuchBox(ValueError):
    """No box of the page has this id."""


class DoesNothing(ValueError):
    """The box to be pressed is no check and has no acts."""


class NoSuchFault(ValueError):
    """The kind of faults asked for is not one of the nine."""


class CannotPress(ValueError):
    """The box to be pressed is off, not visible, or not in the modal."""


class HasNoColumn(ValueError):
    """The box whose heads are asked for is no cell and no th."""
