"""The errors by which the program refuses what it is handed."""


class WishError(ValueError):
    """Any refusal."""


class BadGame(WishError):
    """The setters and the wishes are no game."""


class BadRow(WishError):
    """The row has fewer or more values than the rule comes to see."""


class BadText(WishError):
    """The text is not written as a game is."""
