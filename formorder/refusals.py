"""The refusals, one error class each."""


# Answered as -1.
class WrongArgument(Exception):
    pass


# Answered as -2.
class NoPieces(Exception):
    pass


# Answered as -3.
class WrongCodePoint(Exception):
    pass


# Answered as -4, by put and end.
class TooMuchStands(Exception):
    pass


# Answered as -4, by find.
class NothingToFind(Exception):
    pass


# Answered as -5.
class EndHasCome(Exception):
    pass


# Answered as -6.
class TooManyCome(Exception):
    pass
