"""What the document says of a game, gone through the long way; the tests hold the program against it."""

import itertools

TEN = "fofofofofo"

# One fault of each kind that the interface names, in otherwise good games of either side.
BAD_GAMES = (
    ("f" * 11, []),
    (TEN + "o", [[1]]),
    ("o" * 11, [[1]]),
    ("x", []),
    ("fFo", [[1]]),
    ("fo ", [[1, -1]]),
    ("of,", [[]]),
    ("f", [[1]] * 21),
    ("o", [[1]] * 21),
    ("", [[]] * 21),
    (TEN, [[1] * 11]),
    (TEN, [[1], [], [1, 2, 3, 4, 5, 6, 7, 8, 9, 10, -1]]),
    ("fo", [[0]]),
    ("fo", [[1], [1, 0]]),
    ("of", [[], [0]]),
    ("", [[1]]),
    ("", [[], [-1]]),
    ("fo", [[1, 3]]),
    ("fo", [[1, -3]]),
    ("of", [[1], [-1], [2, 3]]),
    ("of", [[1], [-1], [2, -3]]),
    (TEN, [[1]] * 19 + [[11]]),
    (TEN, [[1]] * 19 + [[-11]]),
    ("fo", [[1, 10 ** 59]]),
)


def games(seed, many, lamps, wishes, numbers):
    """Games that look mixed but are the same in every run; each bound is a pair, the least and the most."""
    draw = Draw(seed)
    made = []
    for _ in range(many):
        setters = "".join("fo"[draw.below(2)] for _ in range(draw.between(lamps)))
        made.append((setters, [draw.wish(len(setters), numbers) for _ in range(draw.between(wishes))]))
    return made


class Draw:
    """Numbers in a fixed order, the same under every Python."""

    def __init__(self, seed):
        self.state = seed

    def below(self, bound):
        self.state = (self.state * 6364136223846793005 + 1442695040888963407) & (2 ** 64 - 1)
        return (self.state >> 33) % bound

    def between(self, bounds):
        least, most = bounds
        return least + self.below(most - least + 1)

    def wish(self, lamps, numbers):
        many = self.between(numbers) if lamps else 0
        return [(1 - 2 * self.below(2)) * (1 + self.below(lamps)) for _ in range(many)]


def tiny_games():
    """All games of up to two lamps with up to three unlike wishes of up to two numbers, the last lamp's ahead."""
    for lamps in range(3):
        numbers = [sign * lamp for lamp in range(lamps, 0, -1) for sign in (1, -1)]
        listed = [list(one) for many in range(3) for one in itertools.combinations_with_replacement(numbers, many)]
        for signs in itertools.product("fo", repeat=lamps):
            for many in range(4):
                for wishes in itertools.permutations(listed, many):
                    yield "".join(signs), list(wishes)


def settings(many):
    return [list(setting) for setting in itertools.product((False, True), repeat=many)]


def so_numbers(setting):
    """All numbers that are so in a setting."""
    return [lamp if value else -lamp for lamp, value in enumerate(setting, 1)]


def all_met(wishes, setting):
    so = set(so_numbers(setting))
    return all(so & set(one) for one in wishes)


def friend_has(setters, wishes, setting=()):
    """Point 3, by all settings of all lamps."""
    if len(setting) == len(setters):
        return all_met(wishes, setting)
    follow = [friend_has(setters, wishes, setting + (value,)) for value in (False, True)]
    return any(follow) if setters[len(setting)] == "f" else all(follow)


def stays(setters, wishes):
    """Point 11, each wish asked by point 3."""
    if friend_has(setters, wishes):
        return None
    gone = set()
    for place in range(len(wishes)):
        rest = [one for at, one in enumerate(wishes) if at not in gone | {place}]
        if not friend_has(setters, rest):
            gone.add(place)
    return [place for place in range(len(wishes)) if place not in gone]


def given(setters, wishes):
    """Point 12, each lamp asked by point 3."""
    if not friend_has(setters, wishes):
        return None
    signs = list(setters)
    for at, sign in enumerate(setters):
        signs[at] = "o"
        if sign == "f" and not friend_has("".join(signs), wishes):
            signs[at] = "f"
    return "".join(signs)


def idle_rule(signs, own):
    """Point 7."""
    if not signs:
        return ("end",)
    rest = idle_rule(signs[1:], own)
    return ("set", False, rest) if signs[0] == own else ("see", rest, rest)


class Walk:
    """Point 9. A setting is told by the tuple of the numbers that are so in it, what is hung on by a set."""

    def __init__(self, setters, wishes):
        self.setters = setters
        self.wishes = wishes
        self.facts = []
        self.friend, self.rule, _ = self.go(())

    def told(self):
        listed = [(at, sorted(hung, key=abs), friend, rule) for at, hung, friend, rule in self.facts]
        return self.friend, self.rule, listed

    def go(self, so):
        return self.ended(so) or self.known(so) or self.learned(so)

    def ended(self, so):
        for one in self.wishes:
            other = {-number for number in one}
            if other <= set(so):
                return False, idle_rule(self.setters[len(so):], "o"), other
        firsts = [[number for number in one if number in so][:1] for one in self.wishes]
        if [] in firsts:
            return None
        return True, idle_rule(self.setters[len(so):], "f"), {first[0] for first in firsts}

    def known(self, so):
        for at, hung, friend, rule in self.facts:
            if at == len(so) and hung <= set(so):
                return friend, rule, hung
        return None

    def learned(self, so):
        friend, rule, hung = self.tried(so)
        self.facts.append((len(so), hung, friend, rule))
        return friend, rule, hung

    def tried(self, so):
        lamp = len(so) + 1
        side = self.setters[lamp - 1] == "f"
        friend, off, hung_off = self.go(so + (-lamp,))
        if friend == side:
            return side, ("set", False, off), hung_off - {-lamp}
        if -lamp not in hung_off:
            return not side, ("see", off, off), hung_off
        friend, on, hung_on = self.go(so + (lamp,))
        if friend == side:
            return side, ("set", True, on), hung_on - {lamp}
        if lamp not in hung_on:
            return not side, ("see", on, on), hung_on
        return not side, ("see", off, on), (hung_off | hung_on) - {-lamp, lamp}
