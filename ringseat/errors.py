"""The refusals of the program, one class for each."""


# Any refusal: whoever takes this one takes them all.
class RingError(ValueError):
    pass


# What was handed in as a guest is none.
class NoGuest(RingError):
    pass


# What was handed in as the size of a house is none.
class NoSize(RingError):
    pass


# The guest is there already, or stands twice in a list.
class Twice(RingError):
    pass


# The guest is not there.
class Away(RingError):
    pass


# There is no seat left to give.
class Full(RingError):
    pass
