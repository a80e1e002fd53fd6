"""Points 3, 9 and 10: who has a game, what is learned on the way, and what that is worth."""

import copy
import inspect
import unittest

import oracle
from everywish import solving
from everywish.errors import BadGame
from everywish.rules import played
from everywish.solving import solve
from oracle import TEN

END = ("end",)


def off(rest):
    return ("set", False, rest)


def on(rest):
    return ("set", True, rest)


def both(rest):
    return ("see", rest, rest)


def mixed_games():
    """Games of up to six lamps, few of them ended before a lamp is set."""
    return (
        oracle.games(1, 100, (0, 5), (0, 5), (0, 3))
        + oracle.games(2, 150, (3, 5), (2, 8), (1, 3))
        + oracle.games(3, 150, (4, 6), (3, 8), (2, 4))
    )


class Interface(unittest.TestCase):
    def test_the_function_stands_in_this_file_with_its_arguments(self):
        self.assertEqual(solve.__module__, "everywish.solving")
        self.assertIs(solving.solve, solve)
        self.assertEqual(list(inspect.signature(solve).parameters), ["setters", "wishes"])

    def test_the_kinds_of_what_is_told(self):
        for setters, wishes in (("fo", [[1, 2], [-2, 1]]), ("of", [[1], [2]]), ("", []), (TEN, [[10]])):
            with self.subTest(setters=setters, wishes=wishes):
                told = solve(setters, wishes)
                self.assertIs(type(told), tuple)
                self.assertEqual(len(told), 3)
                self.assertIs(type(told[0]), bool)
                self.kinds_of_rule(told[1])
                self.assertIs(type(told[2]), list)
                for fact in told[2]:
                    self.kinds_of_fact(fact)

    def kinds_of_fact(self, fact):
        self.assertIs(type(fact), tuple)
        self.assertEqual([type(part) for part in fact], [int, list, bool, tuple])
        self.assertEqual({type(number) for number in fact[1]} - {int}, set())
        self.kinds_of_rule(fact[3])

    def kinds_of_rule(self, rule):
        self.assertIs(type(rule), tuple)
        if rule[0] == "set":
            self.assertEqual(len(rule), 3)
            self.assertIs(type(rule[1]), bool)
            self.kinds_of_rule(rule[2])
        elif rule[0] == "see":
            self.assertEqual(len(rule), 3)
            self.kinds_of_rule(rule[1])
            self.kinds_of_rule(rule[2])
        else:
            self.assertEqual(rule, END)


class WhoHasIt(unittest.TestCase):
    """Point 3."""

    def friends(self, setters, wishes):
        with self.subTest(setters=setters, wishes=wishes):
            self.assertIs(solve(setters, wishes)[0], True)

    def foes(self, setters, wishes):
        with self.subTest(setters=setters, wishes=wishes):
            self.assertIs(solve(setters, wishes)[0], False)

    def test_no_lamp(self):
        self.friends("", [])
        self.foes("", [[]])
        self.foes("", [[]] * 20)

    def test_no_wish(self):
        for setters in ("f", "o", "fo", "of", "ooo", TEN):
            self.friends(setters, [])

    def test_a_wish_without_numbers(self):
        for setters in ("f", "o", "ff", TEN):
            self.foes(setters, [[]])
            self.foes(setters, [[1], []])

    def test_one_lamp(self):
        self.friends("f", [[1]])
        self.friends("f", [[-1]])
        self.foes("f", [[1], [-1]])
        self.foes("o", [[1]])
        self.foes("o", [[-1]])
        self.friends("o", [[1, -1]])

    def test_who_sets_last_is_who_answers(self):
        alike = [[1, -2], [-1, 2]]
        self.friends("of", alike)
        self.foes("fo", alike)
        self.friends("ff", alike)
        self.foes("oo", alike)

    def test_the_friend_may_have_to_look_ahead(self):
        self.friends("fo", [[1, 2], [1, -2]])
        self.foes("fo", [[1, 2], [-1, -2]])
        self.friends("fof", [[1, 2, 3], [-1, -2, -3], [2, -3]])
        self.foes("foo", [[1, 2, 3], [-1, -2, -3]])

    def test_all_lamps_of_one_side(self):
        cross = [[1, 2], [-1, 3], [-2, -3], [1, 3]]
        self.friends("fff", cross)
        self.foes("fff", cross + [[-1, 2]])
        self.foes("ooo", cross)
        self.friends("ooo", [[1, 2, -1], [3, -3]])

    def test_ten_lamps(self):
        chain = [[lamp, -lamp - 1] for lamp in range(1, 10, 2)] + [[-lamp, lamp + 1] for lamp in range(1, 10, 2)]
        self.foes("fo" * 5, chain)
        self.friends("of" * 5, chain)
        self.friends("f" * 10, [[10], [-9]])
        self.foes("o" * 10, [list(range(1, 11))])
        self.friends("o" * 9 + "f", [list(range(1, 11))])

    def test_all_tiny_games_against_all_settings(self):
        for setters, wishes in oracle.tiny_games():
            self.assertIs(solve(setters, wishes)[0], oracle.friend_has(setters, wishes), (setters, wishes))

    def test_mixed_games_against_all_settings(self):
        found = {True: 0, False: 0}
        for setters, wishes in mixed_games():
            friend = oracle.friend_has(setters, wishes)
            self.assertIs(solve(setters, wishes)[0], friend, (setters, wishes))
            found[friend] += 1
        # Games of one side alone would tell little.
        self.assertGreater(min(found.values()), 50)


class GoingThrough(unittest.TestCase):
    """Point 9, each case gone through by hand."""

    def tells(self, setters, wishes, friend, rule, facts):
        with self.subTest(setters=setters, wishes=wishes):
            self.assertEqual(solve(setters, wishes), (friend, rule, facts))

    def test_no_lamp(self):
        self.tells("", [], True, END, [])
        self.tells("", [[]], False, END, [])

    def test_ended_before_a_lamp_is_set(self):
        self.tells("f", [], True, off(END), [])
        self.tells("fo", [], True, off(both(END)), [])
        self.tells("fo", [[1], []], False, both(off(END)), [])
        self.tells("oof", [[]], False, off(off(both(END))), [])

    def test_off_is_tried_first(self):
        self.tells("f", [[-1]], True, off(END), [(0, [], True, off(END))])
        self.tells("o", [[1]], False, off(END), [(0, [], False, off(END))])
        self.tells("f", [[1, -1]], True, off(END), [(0, [], True, off(END))])

    def test_on_is_tried_behind_off(self):
        self.tells("f", [[1]], True, on(END), [(0, [], True, on(END))])
        self.tells("o", [[-1]], False, on(END), [(0, [], False, on(END))])

    def test_both_hang_on_the_lamp(self):
        self.tells("f", [[1], [-1]], False, both(END), [(0, [], False, both(END))])
        self.tells("o", [[1, -1]], True, both(END), [(0, [], True, both(END))])

    def test_with_two_unlike_rules(self):
        answer = ("see", off(END), on(END))
        facts = [(1, [-1], True, off(END)), (1, [1], True, on(END)), (0, [], True, answer)]
        self.tells("of", [[1, -2], [-1, 2]], True, answer, facts)
        other = ("see", on(END), off(END))
        facts = [(1, [-1], False, on(END)), (1, [1], False, off(END)), (0, [], False, other)]
        self.tells("fo", [[1, -2], [-1, 2]], False, other, facts)

    def test_what_is_tried_first_does_not_hang_on_its_lamp(self):
        # With lamp 1 off lamp 2 alone decides, so lamp 1 on is not tried and gives no fact.
        facts = [(1, [], False, off(END)), (0, [], False, both(off(END)))]
        self.tells("fo", [[2]], False, both(off(END)), facts)
        facts = [(1, [], True, on(END)), (0, [], True, both(on(END)))]
        self.tells("of", [[2]], True, both(on(END)), facts)
        facts = [(2, [], False, off(END)), (1, [], False, both(off(END))), (0, [], False, both(both(off(END))))]
        self.tells("ffo", [[-1, 2], [3]], False, both(both(off(END))), facts)

    def test_what_is_tried_second_does_not_hang_on_its_lamp(self):
        # Off goes by another rule, which is not kept.
        facts = [(1, [-1], False, off(END)), (1, [], False, on(END)), (0, [], False, both(on(END)))]
        self.tells("fo", [[1, 2], [-2]], False, both(on(END)), facts)
        facts = [(1, [], True, on(END)), (0, [], True, both(on(END)))]
        self.tells("of", [[2, -1]], True, both(on(END)), facts)

    def test_all_that_both_hung_on_rises_by_lamp(self):
        # Lamp 3 off hangs on lamp 2, on hangs on lamp 1.
        rule = off(on(off(END)))
        facts = [
            (2, [-1, -2], False, both(END)),
            (2, [2], True, off(END)),
            (1, [], True, on(off(END))),
            (0, [], True, rule),
        ]
        self.tells("fff", [[2, 3], [1, -3]], True, rule, facts)

    def test_all_that_both_hung_on_holds_each_lamp_once(self):
        # Lamp 3 off hangs on lamps 1 and 2, on hangs on lamp 1.
        rule = off(on(off(END)))
        facts = [
            (2, [-1, -2], False, both(END)),
            (2, [2], True, off(END)),
            (1, [], True, on(off(END))),
            (0, [], True, rule),
        ]
        self.tells("fff", [[1, 2, 3], [1, -3]], True, rule, facts)

    def test_a_fact_learned_is_used_again(self):
        # The first fact tells of lamp 1 on and lamp 2 off, too: nothing is learned there.
        rule = on(on(both(END)))
        facts = [
            (2, [-2], False, off(END)),
            (2, [-1], False, on(END)),
            (1, [-1], False, both(on(END))),
            (1, [1], True, on(both(END))),
            (0, [], True, rule),
        ]
        self.tells("ffo", [[-3, 1], [2, 3]], True, rule, facts)

    def test_the_first_of_two_facts_that_fit(self):
        # On, off, off: both facts of three lamps fit, and only the first one hangs on lamp 2.
        foe = ("see", on(END), off(END))
        facts = [
            (3, [-2, -3], False, on(END)),
            (2, [-1, -2], False, foe),
            (3, [-3], False, on(END)),
            (2, [-1], False, foe),
            (1, [-1], False, both(foe)),
            (2, [-2], False, foe),
            (2, [], False, foe),
            (1, [], False, both(foe)),
            (0, [], False, both(both(foe))),
        ]
        self.tells("fffo", [[3, -4, 2], [1, -3], [-3], [-4, 3]], False, both(both(foe)), facts)

    def test_what_is_ended_goes_ahead_of_a_fact_that_fits(self):
        # On, on is ended and hangs on lamp 1, too; the first fact would not tell so.
        answer = ("see", on(END), off(END))
        rule = ("see", both(off(END)), answer)
        facts = [
            (2, [2], True, off(END)),
            (1, [-1], True, both(off(END))),
            (2, [-2], True, on(END)),
            (1, [1], True, answer),
            (0, [], True, rule),
        ]
        self.tells("oof", [[-3, -2, 1], [2, -1, 3]], True, rule, facts)

    def test_ended_ahead_of_the_last_lamp(self):
        rule = off(both(off(both(END))))
        self.tells("fofo", [[-1]], True, rule, [(0, [], True, rule)])
        self.tells("ofof", [[1]], False, rule, [(0, [], False, rule)])

    def test_all_lamps_the_friends(self):
        facts = [(1, [-1], False, both(END)), (0, [], True, on(off(END)))]
        self.tells("ff", [[1, 2], [1, -2]], True, on(off(END)), facts)
        facts = [(1, [], False, both(END)), (0, [], False, both(both(END)))]
        self.tells("ff", [[1], [-2], [2]], False, both(both(END)), facts)

    def test_all_lamps_the_foes(self):
        facts = [(1, [-1], False, off(END)), (0, [], False, off(off(END)))]
        self.tells("oo", [[1, 2], [-1, -2]], False, off(off(END)), facts)
        self.tells("oo", [[1, 2, -1]], True, both(both(END)), [(0, [], True, both(both(END)))])

    def test_a_number_twice_and_a_lamp_with_both_signs(self):
        facts = [(1, [], False, off(END)), (0, [], False, both(off(END)))]
        self.tells("fo", [[1, -1, 1], [2, 2]], False, both(off(END)), facts)

    def test_ten_lamps_twenty_wishes_ten_numbers(self):
        # The last lamp alone decides, so each lamp is tried off once, and the last one is set off.
        down = [-10, 1, 2, 3, 4, 5, 6, 7, 8, 9]
        rule = off(END)
        facts = [(9, [], True, rule)]
        for at in reversed(range(9)):
            rule = both(rule)
            facts.append((at, [], True, rule))
        self.tells("o" * 9 + "f", [down] * 20, True, rule, facts)

    def compare(self, setters, wishes):
        walk = oracle.Walk(setters, wishes)
        self.assertEqual(solve(setters, wishes), walk.told(), (setters, wishes))

    def test_all_tiny_games_against_the_words_of_the_document(self):
        for setters, wishes in oracle.tiny_games():
            self.compare(setters, wishes)

    def test_mixed_games_against_the_words_of_the_document(self):
        for setters, wishes in mixed_games():
            self.compare(setters, wishes)

    def test_games_of_ten_lamps_against_the_words_of_the_document(self):
        made = oracle.games(4, 30, (10, 10), (20, 20), (2, 10)) + oracle.games(5, 30, (10, 10), (10, 20), (3, 10))
        for setters, wishes in made:
            self.compare(setters, wishes)


class Worth(unittest.TestCase):
    """Point 10: what a fact or the rule that solve tells is worth, by playing it against every row."""

    def wins(self, setters, wishes, setting, friend, rule):
        signs = setters[len(setting):]
        own = "f" if friend else "o"
        for row in oracle.settings(len(signs) - signs.count(own)):
            values = played(rule, row)
            self.assertEqual(len(values), len(signs))
            self.assertEqual([value for value, sign in zip(values, signs) if sign != own], row)
            self.assertIs(oracle.all_met(wishes, setting + values), friend, (setters, wishes, setting, rule, row))

    def test_the_rule_wins_tiny_games(self):
        for setters, wishes in oracle.tiny_games():
            friend, rule, _ = solve(setters, wishes)
            self.wins(setters, wishes, [], friend, rule)

    def test_the_rule_wins_mixed_games(self):
        for setters, wishes in mixed_games():
            friend, rule, _ = solve(setters, wishes)
            self.wins(setters, wishes, [], friend, rule)

    def test_the_rule_wins_games_of_ten_lamps(self):
        for setters, wishes in oracle.games(6, 20, (10, 10), (10, 20), (2, 10)):
            friend, rule, _ = solve(setters, wishes)
            self.wins(setters, wishes, [], friend, rule)

    def test_each_fact_holds_by_itself(self):
        for setters, wishes in mixed_games():
            for at, numbers, friend, rule in solve(setters, wishes)[2]:
                for setting in oracle.settings(at):
                    if set(numbers) <= set(oracle.so_numbers(setting)):
                        self.wins(setters, wishes, setting, friend, rule)

    def test_the_numbers_of_a_fact_rise_by_lamp_each_lamp_once(self):
        for setters, wishes in mixed_games():
            for at, numbers, _, _ in solve(setters, wishes)[2]:
                lamps = [abs(number) for number in numbers]
                self.assertEqual(lamps, sorted(set(lamps)))
                self.assertLessEqual(set(lamps), set(range(1, at + 1)))

    def test_the_last_fact_tells_of_the_empty_setting(self):
        tried = 0
        for setters, wishes in mixed_games():
            friend, rule, facts = solve(setters, wishes)
            if facts:
                self.assertEqual(facts[-1], (0, [], friend, rule))
                tried += 1
        self.assertGreater(tried, 200)


class BadGames(unittest.TestCase):
    """Points 1 and 2."""

    def test_each_fault_is_refused(self):
        for setters, wishes in oracle.BAD_GAMES:
            with self.subTest(setters=setters, wishes=wishes):
                with self.assertRaises(BadGame) as caught:
                    solve(setters, wishes)
                self.assertIs(type(caught.exception), BadGame)


class NothingIsChanged(unittest.TestCase):
    """Point 1."""

    def test_the_wishes_stay(self):
        for setters, wishes in mixed_games() + [("f", [[1], [1], [-1, -1]]), ("", [[]]), ("fo", [])]:
            was = copy.deepcopy(wishes)
            solve(setters, wishes)
            self.assertEqual(wishes, was)

    def test_refused_wishes_stay(self):
        for setters, wishes in oracle.BAD_GAMES:
            was = copy.deepcopy(wishes)
            with self.assertRaises(BadGame):
                solve(setters, wishes)
            self.assertEqual(wishes, was)

    def test_what_is_told_is_new_each_time(self):
        setters, wishes = "ffo", [[-3, 1], [2, 3]]
        first = copy.deepcopy(solve(setters, wishes))
        told = solve(setters, wishes)
        for _, numbers, _, _ in told[2]:
            numbers.append(7)
        told[2].clear()
        self.assertEqual(wishes, [[-3, 1], [2, 3]])
        self.assertEqual(solve(setters, wishes), first)

    def test_each_fact_has_a_list_of_its_own(self):
        for setters, wishes in mixed_games():
            facts = solve(setters, wishes)[2]
            self.assertEqual(len({id(numbers) for _, numbers, _, _ in facts}), len(facts))


if __name__ == "__main__":
    unittest.main()
