"""The refusals of the program."""


# Any refusal: who takes this one takes them all.
class ShapeError(ValueError):
    pass


# Rows with a tuple that is no shape, or that has such a one within.
class BadShape(ShapeError):
    pass
