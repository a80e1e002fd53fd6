"""Games as texts: a row of the lamps, then a row for each wish."""

from everywish.errors import BadText
from everywish.games import check

FIGURES = "0123456789"
MOST_FIGURES = 60


def shown(setters, wishes):
    """Write a game."""
    rows = [f"lamps {setters}" if setters else "lamps"]
    for wish in wishes:
        words = [str(number) for number in wish]
        rows.append(" ".join(["wish"] + words))
    return "\n".join(rows)


def read(text):
    """Give the setters and the wishes of a text; refuse with BadText or BadGame."""
    rows = text.split("\n")
    setters = read_setters(rows[0])
    wishes = [read_wish(row) for row in rows[1:]]
    # The game is looked at only now, since a fault of the text goes ahead of one of the game.
    check(setters, wishes)
    return setters, wishes


def read_setters(row):
    """Give the setters of the first row, as they stand, or refuse with BadText."""
    if row == "lamps":
        return ""
    word, _, setters = row.partition(" ")
    if word != "lamps" or setters == "":
        raise BadText(f"{row!r} is no row of lamps")
    return setters


def read_wish(row):
    """List the numbers of a wish's row, or refuse with BadText."""
    words = row.split(" ")
    if words[0] != "wish":
        raise BadText(f"{row!r} is no row of a wish")
    return [read_number(word) for word in words[1:]]


def read_number(word):
    """Give the number that a word tells, or refuse with BadText."""
    figures = word.removeprefix("-")
    if not 1 <= len(figures) <= MOST_FIGURES:
        raise BadText(f"a number has one to {MOST_FIGURES} figures, not {len(figures)}")
    if figures[0] == "0" or not all(sign in FIGURES for sign in figures):
        raise BadText(f"{word!r} is no number as it is written")
    return int(word)
