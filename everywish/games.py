"""Games, and what a setting of their first lamps makes of the wishes."""

from everywish.errors import BadGame

MOST_LAMPS = 10
MOST_WISHES = 20
MOST_NUMBERS = 10


def check(setters, wishes):
    """Refuse with BadGame what is no game."""
    check_setters(setters)
    if len(wishes) > MOST_WISHES:
        raise BadGame(f"{len(wishes)} wishes, but at most {MOST_WISHES} may be there")
    for wish in wishes:
        check_wish(wish, len(setters))


def check_setters(setters):
    """Refuse with BadGame setters of too many lamps or with another sign than f and o."""
    if len(setters) > MOST_LAMPS:
        raise BadGame(f"{len(setters)} lamps, but at most {MOST_LAMPS} may be there")
    for sign in setters:
        if sign not in ("f", "o"):
            raise BadGame(f"the sign {sign!r} among the setters is neither f nor o")


def check_wish(wish, lamps):
    """Refuse with BadGame a wish that cannot stand in a game of so many lamps."""
    if len(wish) > MOST_NUMBERS:
        raise BadGame(f"{len(wish)} numbers in a wish, but at most {MOST_NUMBERS} may be there")
    for number in wish:
        if number == 0 or abs(number) > lamps:
            raise BadGame(f"the number {number} tells no lamp, there are {lamps}")


def is_set(number, setting):
    """Tell whether the lamp of a number is among those that are set."""
    return 0 < abs(number) <= len(setting)


def is_so(number, setting):
    """Tell whether a number is so in a setting."""
    return is_set(number, setting) and setting[abs(number) - 1] == (number > 0)


def first_so(wish, setting):
    """Give the first number of a wish that is so, or None where the wish is not met already."""
    for number in wish:
        if is_so(number, setting):
            return number
    return None


def met(wish, setting):
    """Tell whether a wish is met already."""
    return first_so(wish, setting) is not None


def lost(wish, setting):
    """Tell whether a wish is lost already."""
    return all(is_set(number, setting) for number in wish) and not met(wish, setting)


def by_lamp(numbers):
    """List numbers that are so, rising by lamp, each lamp once."""
    # No lamp comes here with both signs, since only one of them can be so.
    of_lamp = {abs(number): number for number in numbers}
    return [of_lamp[lamp] for lamp in sorted(of_lamp)]


def ended(wishes, setting):
    """Give who a setting is ended for (True for the friend) and the reason, or None."""
    for wish in wishes:
        if lost(wish, setting):
            return False, by_lamp([-number for number in wish])
    if all(met(wish, setting) for wish in wishes):
        return True, by_lamp([first_so(wish, setting) for wish in wishes])
    return None
