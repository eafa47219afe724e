"""The refusals of Glide, one class for each."""


class GlideError(ValueError):
    pass


# No fraction or spot can be made of the numbers.
class NoNumber(GlideError):
    pass


# All points lie on one line, so they have no hull.
class Flat(GlideError):
    pass


# Two bodies overlap now.
class Crowded(GlideError):
    pass


# No name, or one by which no body is called.
class NoName(GlideError):
    pass


# A name stands twice.
class Twice(GlideError):
    pass


# A time that is less than the clock.
class Past(GlideError):
    pass


# A text that writes no number, point or list of points.
class NoText(GlideError):
    pass


# A row that the desk doesn't know.
class NoRow(GlideError):
    pass
