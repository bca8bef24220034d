"""What a call is refused for: an error class for each of the numbers that refuse.

NoSuchPlace is answered as -1, NoSheetThere as -2, NotFitting as -3, NotJoinable as -5.
"""


class NoSuchPlace(Exception):
    pass


class NoSheetThere(Exception):
    pass


class NotFitting(Exception):
    pass


class NotJoinable(Exception):
    pass
