"""What a game needs: the wishes by which the foe has it, the lamps by which the friend has it."""

from everywish.solving import solve


def friend_has(setters, wishes):
    """Tell whether the friend has a game; refuse with BadGame what is none."""
    return solve(setters, wishes)[0]


def needed(setters, wishes):
    """List the places of the wishes that stay where the foe has the game, else give None."""
    if friend_has(setters, wishes):
        return None
    places = list(range(len(wishes)))
    for asked in range(len(wishes)):
        rest = [place for place in places if place != asked]
        if not friend_has(setters, [wishes[place] for place in rest]):
            places = rest
    return places


def lent(setters, wishes):
    """Give the setters behind all lamps given away where the friend has the game, else None."""
    if not friend_has(setters, wishes):
        return None
    left = setters
    for at in range(len(setters)):
        given = left[:at] + "o" + left[at + 1:]
        if setters[at] == "f" and friend_has(given, wishes):
            left = given
    return left
