"""Points 1 and 2 (the game), and 4 and 5 (what a setting makes of the wishes)."""

import copy
import inspect
import itertools
import unittest

from everywish import games
from everywish.errors import BadGame
from everywish.games import MOST_LAMPS, MOST_NUMBERS, MOST_WISHES, check, ended, lost, met

TEN = "fofofofofo"


class Interface(unittest.TestCase):
    def test_the_bounds(self):
        self.assertEqual((MOST_LAMPS, MOST_WISHES, MOST_NUMBERS), (10, 20, 10))

    def test_the_functions_stand_in_this_file_with_their_arguments(self):
        listed = {
            "check": ["setters", "wishes"],
            "met": ["wish", "setting"],
            "lost": ["wish", "setting"],
            "ended": ["wishes", "setting"],
        }
        for name, arguments in listed.items():
            with self.subTest(name=name):
                found = getattr(games, name)
                self.assertEqual(found.__module__, "everywish.games")
                self.assertEqual(list(inspect.signature(found).parameters), arguments)


class GoodGames(unittest.TestCase):
    """Points 1 and 2: check gives None of these."""

    def good(self, setters, wishes):
        with self.subTest(setters=setters, wishes=wishes):
            self.assertIsNone(check(setters, wishes))

    def test_ordinary_games(self):
        self.good("fo", [[1, -2], [-1, 2]])
        self.good("oof", [[3, 1], [-2]])

    def test_no_lamp_and_no_wish(self):
        self.good("", [])
        self.good("", [[]])
        self.good("f", [])
        self.good("o", [])

    def test_a_wish_without_numbers(self):
        self.good("fo", [[], [1], []])

    def test_one_side_alone(self):
        self.good("ffff", [[4], [-4]])
        self.good("oooo", [[4], [-4]])

    def test_a_number_twice_and_a_lamp_with_both_signs(self):
        self.good("f", [[1, 1]])
        self.good("fo", [[2, -2], [-1, -1, 1]])

    def test_the_last_lamp_with_either_sign(self):
        self.good("fo", [[2], [-2]])
        self.good(TEN, [[10], [-10]])

    def test_ten_lamps(self):
        self.good(TEN, [[1]])
        self.good("f" * 10, [])
        self.good("o" * 10, [])

    def test_twenty_wishes(self):
        self.good("f", [[1]] * 20)
        self.good("", [[]] * 20)

    def test_a_wish_of_ten_numbers(self):
        self.good(TEN, [[1, -2, 3, -4, 5, -6, 7, -8, 9, -10]])
        self.good("f", [[1] * 10])

    def test_all_bounds_at_once(self):
        self.good(TEN, [[-number for number in range(1, 11)] for _ in range(20)])


class BadGames(unittest.TestCase):
    """Points 1 and 2: check refuses these with BadGame."""

    def bad(self, setters, wishes):
        with self.subTest(setters=setters, wishes=wishes):
            with self.assertRaises(BadGame) as caught:
                check(setters, wishes)
            self.assertIs(type(caught.exception), BadGame)

    def test_too_many_lamps(self):
        self.bad("f" * 11, [])
        self.bad(TEN + "o", [[1]])
        self.bad("o" * 30, [])

    def test_too_many_wishes(self):
        self.bad("f", [[1]] * 21)
        self.bad("", [[]] * 21)
        self.bad("fo", [[1, 2]] * 50)

    def test_too_many_numbers_in_a_wish(self):
        self.bad(TEN, [[1] * 11])
        self.bad(TEN, [[1, 2, 3, 4, 5, 6, 7, 8, 9, 10, -1]])
        self.bad("f", [[1], [], [1] * 11])

    def test_another_sign_among_the_setters(self):
        for sign in ("x", "F", "O", " ", "1", "0", "-", ",", "\n"):
            self.bad(sign, [])
            self.bad(sign + "fo", [])
            self.bad("fo" + sign, [[1]])
            self.bad("f" + sign + "o", [])

    def test_a_number_nought(self):
        self.bad("fo", [[0]])
        self.bad("fo", [[1, 2, 0]])
        self.bad("fo", [[1], [0, 2]])
        self.bad("", [[0]])

    def test_a_lamp_just_behind_the_last_one(self):
        for sign in (1, -1):
            self.bad("", [[sign]])
            self.bad("f", [[sign * 2]])
            self.bad("foo", [[1, -3], [2, sign * 4]])
            self.bad(TEN, [[sign * 11]])

    def test_a_lamp_far_behind_the_last_one(self):
        self.bad("fo", [[1000]])
        self.bad("fo", [[-1000]])
        self.bad("fo", [[10 ** 50]])

    def test_a_fault_in_the_last_wish_alone(self):
        self.bad("fo", [[1]] * 19 + [[3]])
        self.bad("fo", [[1]] * 19 + [[-3]])


class MetAndLost(unittest.TestCase):
    """Points 2 and 4."""

    def is_met(self, wish, setting):
        with self.subTest(wish=wish, setting=setting):
            self.assertIs(met(wish, setting), True)
            self.assertIs(lost(wish, setting), False)

    def is_lost(self, wish, setting):
        with self.subTest(wish=wish, setting=setting):
            self.assertIs(met(wish, setting), False)
            self.assertIs(lost(wish, setting), True)

    def is_neither(self, wish, setting):
        with self.subTest(wish=wish, setting=setting):
            self.assertIs(met(wish, setting), False)
            self.assertIs(lost(wish, setting), False)

    def test_one_number(self):
        self.is_met([1], [True])
        self.is_met([-1], [False])
        self.is_lost([1], [False])
        self.is_lost([-1], [True])

    def test_one_number_that_is_so_is_enough(self):
        self.is_met([1, 2], [False, True])
        self.is_met([-1, -2, -3], [True, True, False])
        self.is_met([3, -2, 1], [True, True, False])

    def test_all_numbers_otherwise(self):
        self.is_lost([1, 2], [False, False])
        self.is_lost([-3, 1, -2], [False, True, True])

    def test_a_lamp_that_is_not_set_yet(self):
        self.is_neither([1], [])
        self.is_neither([-1], [])
        self.is_neither([2], [True])
        self.is_neither([-2], [False])
        self.is_neither([1, 3], [False, True])
        self.is_neither([3, 1], [False, True])

    def test_met_ahead_of_lamps_that_are_not_set_yet(self):
        self.is_met([10, 1], [True])
        self.is_met([-1, -10], [False])

    def test_the_last_lamp_that_is_set(self):
        self.is_met([2], [False, True])
        self.is_met([-2], [True, False])
        self.is_lost([2], [True, False])
        self.is_lost([-2], [False, True])

    def test_no_number(self):
        self.is_lost([], [])
        self.is_lost([], [True])
        self.is_lost([], [False] * 10)

    def test_a_number_twice(self):
        self.is_met([1, 1], [True])
        self.is_lost([1, 1], [False])
        self.is_neither([2, 2], [False])

    def test_a_lamp_with_both_signs(self):
        self.is_met([1, -1], [True])
        self.is_met([1, -1], [False])
        self.is_neither([1, -1], [])
        self.is_neither([2, -2], [True])

    def test_a_whole_setting_of_ten(self):
        setting = [True, False] * 5
        self.is_met([10, -9, 8, -10], setting)
        self.is_lost([-1, 2, -3, 4, -5, 6, -7, 8, -9, 10], setting)
        self.is_neither([-1, 2, -3, 4, -5, 6, -7, 8, -9, 10], setting[:9])

    def test_numbers_beyond_the_bounds_raise_no_error(self):
        for setting in ([], [False], [True] * 11):
            self.assertIs(met([0], setting), False)
        self.is_met([-11, 11], [True] * 11)
        self.is_lost([-11], [True] * 11)
        self.is_neither([1] * 11 + [12], [False] * 11)

    def test_against_the_words_of_the_document(self):
        signed = (1, -1, 2, -2, 3, -3)
        for many in range(3):
            for wish in itertools.product(signed, repeat=many):
                for length in range(4):
                    for setting in itertools.product((True, False), repeat=length):
                        self.compare(list(wish), list(setting))

    def compare(self, wish, setting):
        true_numbers = {lamp if on else -lamp for lamp, on in enumerate(setting, 1)}
        lamps = set(range(1, len(setting) + 1))
        is_met = bool(true_numbers & set(wish))
        is_lost = {abs(number) for number in wish} <= lamps and not is_met
        self.assertIs(met(wish, setting), is_met, (wish, setting))
        self.assertIs(lost(wish, setting), is_lost, (wish, setting))


class Ended(unittest.TestCase):
    """Points 4 and 5."""

    def is_ended(self, wishes, setting, friend, reason):
        with self.subTest(wishes=wishes, setting=setting):
            found = ended(wishes, setting)
            self.assertIs(type(found), tuple)
            self.assertEqual(len(found), 2)
            self.assertIs(found[0], friend)
            self.assertIs(type(found[1]), list)
            self.assertEqual(found[1], reason)

    def is_open(self, wishes, setting):
        with self.subTest(wishes=wishes, setting=setting):
            self.assertIsNone(ended(wishes, setting))

    def test_no_wish(self):
        self.is_ended([], [], True, [])
        self.is_ended([], [True, False], True, [])

    def test_a_wish_without_numbers(self):
        self.is_ended([[]], [], False, [])
        self.is_ended([[]], [True], False, [])
        self.is_ended([[1], []], [], False, [])
        self.is_ended([[1], []], [True], False, [])

    def test_not_ended(self):
        self.is_open([[1]], [])
        self.is_open([[1], [2]], [True])
        self.is_open([[2], [1]], [True])
        self.is_open([[1, 2]], [False])
        self.is_open([[2, -2]], [True])

    def test_for_the_foe_the_numbers_have_the_other_sign(self):
        self.is_ended([[1]], [False], False, [-1])
        self.is_ended([[-1]], [True], False, [1])
        self.is_ended([[1, -2]], [False, True], False, [-1, 2])

    def test_for_the_foe_the_reason_rises_by_lamp(self):
        self.is_ended([[3, -1, 2]], [True, False, False], False, [1, -2, -3])
        self.is_ended([[-3, 2, -1]], [True, False, True], False, [1, -2, 3])

    def test_for_the_foe_each_lamp_once(self):
        self.is_ended([[2, 1, 2, 1, 2]], [False, False], False, [-1, -2])

    def test_for_the_foe_only_the_lamps_of_the_wish(self):
        self.is_ended([[2]], [True, False, True], False, [-2])

    def test_the_first_of_two_lost_wishes(self):
        self.is_ended([[1], [2]], [False, False], False, [-1])
        self.is_ended([[2], [1]], [False, False], False, [-2])
        self.is_ended([[3], [2, -1], [-1]], [True, False], False, [1, -2])
        self.is_ended([[1], []], [False], False, [-1])
        self.is_ended([[], [1]], [False], False, [])

    def test_a_lost_wish_behind_met_and_open_ones(self):
        self.is_ended([[1], [3], [2]], [True, False], False, [-2])
        self.is_ended([[2], [3], [1]], [False], False, [-1])

    def test_for_the_friend_the_first_number_of_each_wish_that_is_so(self):
        self.is_ended([[1]], [True], True, [1])
        self.is_ended([[-1]], [False], True, [-1])
        self.is_ended([[2, 1]], [True, True], True, [2])
        self.is_ended([[1, 2]], [True, True], True, [1])
        self.is_ended([[3, -1, 2]], [True, True], True, [2])
        self.is_ended([[-1, -2], [2, -3]], [True, False, False], True, [-2, -3])

    def test_for_the_friend_the_reason_rises_by_lamp(self):
        self.is_ended([[3], [-2], [1]], [True, False, True], True, [1, -2, 3])
        self.is_ended([[-1], [-3], [2]], [False, True, False], True, [-1, 2, -3])

    def test_for_the_friend_each_lamp_once(self):
        self.is_ended([[2], [2, 1], [2, 2], [-2, 2]], [True, True], True, [2])
        self.is_ended([[-1, -1], [1, -1], [-1]], [False], True, [-1])

    def test_for_the_friend_ahead_of_the_last_lamp(self):
        self.is_ended([[10, 1], [-2, -9]], [True, False], True, [1, -2])

    def test_a_lamp_with_both_signs(self):
        self.is_ended([[1, -1]], [True], True, [1])
        self.is_ended([[1, -1]], [False], True, [-1])

    def test_ten_lamps_twenty_wishes_ten_numbers(self):
        setting = [False] * 10
        up = list(range(1, 11))
        down = [-number for number in reversed(up)]
        self.is_ended([down] * 20, setting, True, [-10])
        self.is_ended([down] * 19 + [up], setting, False, [-number for number in up])
        self.is_open([down] * 19 + [up], setting[:9])
        self.is_ended([[-lamp] for lamp in reversed(up)] * 2, setting, True, [-lamp for lamp in up])


class NothingIsChanged(unittest.TestCase):
    """Point 1: what is handed in stays as it was."""

    def test_wishes_and_setting_stay(self):
        wishes = [[3, -1, 2, 2], [], [2, -2], [1], [1]]
        settings = ([], [True], [False, True], [True, True, True], [False, False, False])
        kept = copy.deepcopy(wishes)
        check("fof", wishes)
        for setting in settings:
            was = list(setting)
            ended(wishes, setting)
            ended(wishes[2:], setting)
            for wish in wishes:
                met(wish, setting)
                lost(wish, setting)
            self.assertEqual(setting, was)
        self.assertEqual(wishes, kept)

    def test_a_refused_game_stays(self):
        wishes = [[2, 1], [0, 3]]
        with self.assertRaises(BadGame):
            check("fo", wishes)
        self.assertEqual(wishes, [[2, 1], [0, 3]])

    def test_the_reason_is_a_list_of_its_own(self):
        wishes = [[1]]
        for setting in ([True], [False]):
            ended(wishes, setting)[1].append(7)
            self.assertEqual(wishes, [[1]])
            self.assertEqual(len(ended(wishes, setting)[1]), 1)
        empty = []
        ended(empty, [])[1].append(7)
        self.assertEqual((empty, ended([], [])), ([], (True, [])))


if __name__ == "__main__":
    unittest.main()
