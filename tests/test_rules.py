"""Points 6 to 8: the idle rule, and how a rule is played."""

import copy
import inspect
import itertools
import unittest

from everywish import rules
from everywish.errors import BadRow
from everywish.rules import idle, played

END = ("end",)


def off(rest):
    return ("set", False, rest)


def on(rest):
    return ("set", True, rest)


def both(rest):
    return ("see", rest, rest)


class Interface(unittest.TestCase):
    def test_the_functions_stand_in_this_file_with_their_arguments(self):
        listed = {"idle": ["setters", "at", "friend"], "played": ["rule", "row"]}
        for name, arguments in listed.items():
            with self.subTest(name=name):
                found = getattr(rules, name)
                self.assertEqual(found.__module__, "everywish.rules")
                self.assertEqual(list(inspect.signature(found).parameters), arguments)


class Idle(unittest.TestCase):
    """Points 6 and 7."""

    def test_no_lamp(self):
        self.assertEqual(idle("", 0, True), END)
        self.assertEqual(idle("", 0, False), END)

    def test_one_lamp(self):
        self.assertEqual(idle("f", 0, True), off(END))
        self.assertEqual(idle("f", 0, False), both(END))
        self.assertEqual(idle("o", 0, True), both(END))
        self.assertEqual(idle("o", 0, False), off(END))

    def test_the_lamps_stand_in_their_order(self):
        self.assertEqual(idle("fo", 0, True), off(both(END)))
        self.assertEqual(idle("fo", 0, False), both(off(END)))
        self.assertEqual(idle("ffoo", 0, True), off(off(both(both(END)))))
        self.assertEqual(idle("ffoo", 0, False), both(both(off(off(END)))))

    def test_behind_the_first_lamps(self):
        rest = {True: [off(both(off(END))), both(off(END)), off(END), END],
                False: [both(off(both(END))), off(both(END)), both(END), END]}
        for friend, listed in rest.items():
            for at, rule in enumerate(listed):
                with self.subTest(friend=friend, at=at):
                    self.assertEqual(idle("fof", at, friend), rule)

    def test_behind_the_last_of_ten_lamps(self):
        for friend in (True, False):
            self.assertEqual(idle("fofofofofo", 10, friend), END)

    def test_more_lamps_than_a_game_has_raise_no_error(self):
        self.assertEqual(played(idle("f" * 12, 0, True), []), [False] * 12)

    def test_it_sets_its_lamps_off_whatever_the_other_side_sets(self):
        for setters in ("fffff", "ooooo", "foofo", "offfo", "fofofofofo", "oooooooooo"):
            for at in range(len(setters) + 1):
                for friend in (True, False):
                    self.sets_off(setters, at, friend)

    def sets_off(self, setters, at, friend):
        own = "f" if friend else "o"
        signs = setters[at:]
        rule = idle(setters, at, friend)
        others = len(signs) - signs.count(own)
        for row in itertools.product((False, True), repeat=others):
            left = iter(row)
            wanted = [False if sign == own else next(left) for sign in signs]
            self.assertEqual(played(rule, list(row)), wanted)

    def test_it_is_made_of_tuples_and_truth_values(self):
        rule = idle("fo", 0, True)
        self.assertIs(type(rule), tuple)
        self.assertIs(rule[1], False)
        self.assertIs(type(rule[2]), tuple)
        self.assertIs(type(rule[2][1]), tuple)


class Played(unittest.TestCase):
    """Points 6 and 8."""

    # Along `off` this rule comes to see two more lamps, along `on` none.
    UNLIKE = ("see", ("see", on(both(END)), off(both(END))), on(off(on(END))))

    def plays(self, rule, row, values):
        with self.subTest(rule=rule, row=row):
            found = played(rule, row)
            self.assertIs(type(found), list)
            self.assertEqual(found, values)

    def refuses(self, rule, row):
        with self.subTest(rule=rule, row=row):
            with self.assertRaises(BadRow) as caught:
                played(rule, row)
            self.assertIs(type(caught.exception), BadRow)

    def test_the_end_alone(self):
        self.plays(END, [], [])

    def test_own_lamps_alone(self):
        self.plays(on(END), [], [True])
        self.plays(off(END), [], [False])
        self.plays(on(off(off(on(END)))), [], [True, False, False, True])

    def test_seen_lamps_alone(self):
        self.plays(both(END), [True], [True])
        self.plays(both(END), [False], [False])
        self.plays(both(both(both(END))), [False, True, True], [False, True, True])

    def test_off_and_on_are_not_alike(self):
        copies = ("see", off(END), on(END))
        self.plays(copies, [False], [False, False])
        self.plays(copies, [True], [True, True])
        turns = ("see", on(END), off(END))
        self.plays(turns, [False], [False, True])
        self.plays(turns, [True], [True, False])

    def test_own_and_seen_lamps(self):
        rule = on(("see", ("see", on(END), off(END)), off(both(END))))
        self.plays(rule, [False, False], [True, False, False, True])
        self.plays(rule, [False, True], [True, False, True, False])
        self.plays(rule, [True, False], [True, True, False, False])
        self.plays(rule, [True, True], [True, True, False, True])

    def test_off_and_on_come_to_see_other_numbers_of_lamps(self):
        self.plays(self.UNLIKE, [True], [True, True, False, True])
        self.plays(self.UNLIKE, [False, False, True], [False, False, True, True])
        self.plays(self.UNLIKE, [False, True, False], [False, True, False, False])

    def test_ten_lamps(self):
        rule = END
        for _ in range(5):
            rule = on(both(rule))
        self.plays(rule, [False] * 5, [True, False] * 5)
        self.plays(rule, [False, True] * 2 + [True], [True, False, True, True] * 2 + [True, True])

    def test_a_row_too_short(self):
        self.refuses(both(END), [])
        self.refuses(both(both(END)), [True])
        self.refuses(on(both(off(END))), [])
        self.refuses(("see", END, both(END)), [True])
        self.refuses(("see", both(END), END), [False])
        self.refuses(self.UNLIKE, [False, False])

    def test_a_row_too_long(self):
        for more in (True, False):
            self.refuses(END, [more])
            self.refuses(on(END), [more])
            self.refuses(both(END), [True, more])
            self.refuses(both(off(END)), [False, more, more])
            self.refuses(("see", both(END), END), [True, more])
            self.refuses(("see", END, both(END)), [False, more])
            self.refuses(self.UNLIKE, [True, more, more])


class NothingIsChanged(unittest.TestCase):
    """Point 1: what is handed in stays as it was."""

    def test_the_row_stays(self):
        rule = ("see", on(both(END)), off(both(END)))
        row = [True, False]
        self.assertEqual(played(rule, row), [True, False, False])
        self.assertEqual(row, [True, False])
        for short_or_long in ([], [True], [True, False, True]):
            was = copy.copy(short_or_long)
            with self.assertRaises(BadRow):
                played(rule, short_or_long)
            self.assertEqual(short_or_long, was)

    def test_what_comes_is_a_list_of_its_own(self):
        row = [True]
        played(both(END), row).append(False)
        self.assertEqual(row, [True])
        played(END, []).append(True)
        self.assertEqual(played(END, []), [])


if __name__ == "__main__":
    unittest.main()
