"""Points 11 and 12: the wishes that stay, and the lamps that are given away."""

import copy
import inspect
import unittest

import oracle
from everywish import needs
from everywish.errors import BadGame
from everywish.needs import lent, needed
from oracle import TEN


def mixed_games():
    return (
        oracle.games(11, 100, (0, 4), (0, 5), (0, 3))
        + oracle.games(12, 150, (2, 5), (1, 6), (1, 3))
        + oracle.games(13, 150, (4, 6), (3, 9), (2, 4))
    )


class Interface(unittest.TestCase):
    def test_the_functions_stand_in_this_file_with_their_arguments(self):
        for name in ("needed", "lent"):
            with self.subTest(name=name):
                found = getattr(needs, name)
                self.assertEqual(found.__module__, "everywish.needs")
                self.assertEqual(list(inspect.signature(found).parameters), ["setters", "wishes"])


class Needed(unittest.TestCase):
    """Point 11."""

    def stay(self, setters, wishes, places):
        with self.subTest(setters=setters, wishes=wishes):
            found = needed(setters, wishes)
            self.assertIs(type(found), list)
            self.assertEqual(found, places)
            self.assertEqual({type(place) for place in found} - {int}, set())

    def test_none_where_the_friend_has_the_game(self):
        for setters, wishes in (("", []), ("o", []), ("f", [[1]]), ("o", [[1, -1]]), ("of", [[1, -2], [-1, 2]])):
            with self.subTest(setters=setters, wishes=wishes):
                self.assertIsNone(needed(setters, wishes))

    def test_one_wish(self):
        self.stay("o", [[1]], [0])
        self.stay("", [[]], [0])
        self.stay("fff", [[]], [0])

    def test_all_stay(self):
        self.stay("f", [[1], [-1]], [0, 1])
        self.stay("fo", [[1, -2], [-1, 2]], [0, 1])
        self.stay("ff", [[1, 2], [1, -2], [-1, 2], [-1, -2]], [0, 1, 2, 3])

    def test_a_wish_that_is_no_need_goes(self):
        self.stay("ff", [[2], [1], [2, 1], [-1]], [1, 3])
        self.stay("of", [[2], [1], [-2]], [1])
        self.stay("ff", [[1], [-1], [2], [2, 1]], [0, 1])

    def test_the_first_ones_go_first(self):
        # Each wish could go by itself, but not all of them.
        self.stay("o", [[1], [-1]], [1])
        self.stay("o", [[-1], [1]], [1])
        self.stay("ooo", [[1], [2], [3]], [2])
        self.stay("fo", [[2], [1], [-1]], [1, 2])

    def test_a_wish_behind_may_go_where_one_ahead_stays(self):
        self.stay("ff", [[1], [2], [-1]], [0, 2])
        self.stay("of", [[1, -2], [2, 1], [2]], [0, 2])

    def test_a_wish_twice_counts_by_its_places(self):
        self.stay("f", [[1], [1], [-1], [-1]], [1, 3])
        self.stay("", [[], [], []], [2])
        self.stay("o", [[1], [1]], [1])

    def test_a_wish_without_numbers(self):
        self.stay("f", [[1], [], [1]], [1])
        self.stay("f", [[1], [], [-1]], [1])
        self.stay("f", [[], [1], [-1]], [1, 2])
        self.stay("ff", [[], [2], [1]], [0])
        self.stay("ff", [[2], [1], []], [2])

    def test_twenty_wishes(self):
        self.stay("o", [[1]] * 20, [19])
        self.stay("f", [[1]] * 19 + [[-1]], [18, 19])
        self.stay("f", [[-1]] + [[1]] * 19, [0, 19])
        self.stay(TEN, [[lamp] for lamp in range(1, 11)] * 2, [19])

    def test_ten_lamps_and_wishes_of_ten_numbers(self):
        down = [-lamp for lamp in range(1, 11)]
        up = list(range(10, 0, -1))
        self.stay("o" * 10, [down, up], [1])
        self.stay("o" * 10, [up, down, [5, -5]], [1])

    def test_against_each_wish_asked(self):
        found = 0
        for setters, wishes in mixed_games():
            places = needed(setters, wishes)
            self.assertEqual(places, oracle.stays(setters, wishes), (setters, wishes))
            found += bool(places and len(places) < len(wishes))
        self.assertGreater(found, 50)

    def test_all_tiny_games_against_each_wish_asked(self):
        for setters, wishes in oracle.tiny_games():
            self.assertEqual(needed(setters, wishes), oracle.stays(setters, wishes), (setters, wishes))

    def test_none_that_stays_can_go_by_itself(self):
        for setters, wishes in mixed_games():
            for gone in needed(setters, wishes) or []:
                kept = [place for place in needed(setters, wishes) if place != gone]
                self.assertTrue(oracle.friend_has(setters, [wishes[place] for place in kept]), (setters, wishes))


class Lent(unittest.TestCase):
    """Point 12."""

    def gives(self, setters, wishes, left):
        with self.subTest(setters=setters, wishes=wishes):
            found = lent(setters, wishes)
            self.assertIs(type(found), str)
            self.assertEqual(found, left)

    def test_none_where_the_foe_has_the_game(self):
        for setters, wishes in (("", [[]]), ("f", [[]]), ("o", [[1]]), ("f", [[1], [-1]]), ("fo", [[1, -2], [-1, 2]])):
            with self.subTest(setters=setters, wishes=wishes):
                self.assertIsNone(lent(setters, wishes))

    def test_no_lamp(self):
        self.gives("", [], "")

    def test_no_wish(self):
        self.gives("f", [], "o")
        self.gives("fof", [], "ooo")
        self.gives(TEN, [], "o" * 10)

    def test_a_lamp_that_is_needed_is_kept(self):
        self.gives("f", [[1]], "f")
        self.gives("ff", [[1], [-2]], "ff")
        self.gives("of", [[1, -2], [-1, 2]], "of")

    def test_a_lamp_that_is_no_need_is_given(self):
        self.gives("ff", [[1]], "fo")
        self.gives("ff", [[-2]], "of")
        self.gives("fff", [[2]], "ofo")
        self.gives("f", [[1, -1]], "o")

    def test_the_first_ones_are_given_first(self):
        # Each lamp could be given by itself, but not all of them.
        self.gives("ff", [[1, 2]], "of")
        self.gives("fff", [[1, 2, 3]], "oof")
        self.gives("ffff", [[1, 2], [3, 4]], "ofof")

    def test_a_lamp_behind_may_be_given_where_one_ahead_is_kept(self):
        self.gives("fff", [[1], [2, 3]], "fof")
        self.gives("ff", [[1], [2, 1]], "fo")

    def test_a_lamp_of_the_foe_stays_the_foes(self):
        self.gives("o", [], "o")
        self.gives("oo", [[1, -1]], "oo")
        self.gives("ofo", [[2]], "ofo")

    def test_ten_lamps(self):
        self.gives("f" * 10, [list(range(1, 11))], "o" * 9 + "f")
        self.gives("f" * 10, [[lamp] for lamp in range(1, 11)] * 2, "f" * 10)
        self.gives("f" * 10, [[1], [-10]], "f" + "o" * 8 + "f")

    def test_against_each_lamp_asked(self):
        found = 0
        for setters, wishes in mixed_games():
            left = lent(setters, wishes)
            self.assertEqual(left, oracle.given(setters, wishes), (setters, wishes))
            found += left is not None and left != setters and "f" in left
        self.assertGreater(found, 20)

    def test_all_tiny_games_against_each_lamp_asked(self):
        for setters, wishes in oracle.tiny_games():
            self.assertEqual(lent(setters, wishes), oracle.given(setters, wishes), (setters, wishes))

    def test_none_that_is_left_can_be_given_by_itself(self):
        for setters, wishes in mixed_games():
            left = lent(setters, wishes) or ""
            for at, sign in enumerate(left):
                if sign == "f":
                    without = left[:at] + "o" + left[at + 1:]
                    self.assertFalse(oracle.friend_has(without, wishes), (setters, wishes))


class BadGames(unittest.TestCase):
    """Points 1 and 2."""

    def test_each_fault_is_refused(self):
        for asked in (needed, lent):
            for setters, wishes in oracle.BAD_GAMES:
                with self.subTest(asked=asked, setters=setters, wishes=wishes):
                    with self.assertRaises(BadGame) as caught:
                        asked(setters, wishes)
                    self.assertIs(type(caught.exception), BadGame)


class NothingIsChanged(unittest.TestCase):
    """Point 1."""

    def test_the_wishes_stay(self):
        for setters, wishes in mixed_games():
            was = copy.deepcopy(wishes)
            needed(setters, wishes)
            lent(setters, wishes)
            self.assertEqual(wishes, was)

    def test_refused_wishes_stay(self):
        for setters, wishes in oracle.BAD_GAMES:
            was = copy.deepcopy(wishes)
            for asked in (needed, lent):
                with self.assertRaises(BadGame):
                    asked(setters, wishes)
            self.assertEqual(wishes, was)

    def test_the_places_are_a_list_of_their_own(self):
        wishes = [[1], [-1]]
        needed("f", wishes).append(7)
        self.assertEqual((wishes, needed("f", wishes)), ([[1], [-1]], [0, 1]))


if __name__ == "__main__":
    unittest.main()
