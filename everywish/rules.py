"""Rules: the values of one side, whatever the other side sets."""

from everywish.errors import BadRow


def idle(setters, at, friend):
    """Give the rule by which a side sets all its lamps behind the first `at` off."""
    own = "f" if friend else "o"
    rule = ("end",)
    # A rule holds the rules for the lamps behind it, so it is built from the last lamp on.
    for sign in reversed(setters[at:]):
        if sign == own:
            rule = ("set", False, rule)
        else:
            rule = ("see", rule, rule)
    return rule


def played(rule, row):
    """Give the values of all lamps from the rule's first one on, the other side's from the row."""
    values = []
    seen = 0
    while rule[0] != "end":
        if rule[0] == "set":
            value, rest = rule[1], rule[2]
        else:
            if seen == len(row):
                raise BadRow(f"the row has {len(row)} values, but the rule comes to see more")
            value = row[seen]
            rest = rule[2] if value else rule[1]
            seen += 1
        values.append(value)
        rule = rest
    if seen < len(row):
        raise BadRow(f"the row has {len(row)} values, but the rule comes to see {seen}")
    return values
