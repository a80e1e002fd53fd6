"""Going through a game: who has it, by which rule, and what is learned on the way."""

from everywish.games import by_lamp, check, ended, is_so
from everywish.rules import idle


def solve(setters, wishes):
    """Give who has the game (True for the friend), its rule for that, and all facts learned."""
    check(setters, wishes)
    facts = []
    friend, rule, _ = go_through(setters, wishes, [], facts)
    return friend, rule, facts


def go_through(setters, wishes, setting, facts):
    """Give who a setting goes to, by which rule and hanging on what; add what is learned to the facts."""
    at = len(setting)
    end = ended(wishes, setting)
    if end is not None:
        friend, reason = end
        return friend, idle(setters, at, friend), reason
    fact = first_fitting(facts, setting)
    if fact is not None:
        _, numbers, friend, rule = fact
        return friend, rule, numbers
    friend, rule, numbers = try_lamp(setters, wishes, setting, facts)
    facts.append((at, numbers, friend, rule))
    return friend, rule, numbers


def first_fitting(facts, setting):
    """Give the first fact that tells of a setting, or None."""
    at = len(setting)
    for fact in facts:
        if fact[0] == at and all(is_so(number, setting) for number in fact[1]):
            return fact
    return None


def try_lamp(setters, wishes, setting, facts):
    """Go through a setting by trying its next lamp, first off, then on."""
    lamp = len(setting) + 1
    setter = setters[len(setting)] == "f"
    behind = []
    hung = []
    for value in (False, True):
        friend, rule, numbers = go_through(setters, wishes, setting + [value], facts)
        # A list of its own, so that no two facts share one.
        others = [number for number in numbers if abs(number) != lamp]
        if friend == setter:
            return friend, ("set", value, rule), others
        if others == numbers:
            return friend, ("see", rule, rule), others
        behind.append(rule)
        hung.extend(others)
    off, on = behind
    return not setter, ("see", off, on), by_lamp(hung)
