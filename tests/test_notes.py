"""Point 13: games as texts."""

import copy
import inspect
import unittest

import oracle
from everywish import notes
from everywish.errors import BadGame, BadText
from everywish.notes import read, shown
from oracle import TEN

SIXTY = "1234567890" * 6

# Each game and the one text that it is written as.
WRITTEN = (
    ("", [], "lamps"),
    ("f", [], "lamps f"),
    ("o", [], "lamps o"),
    ("", [[]], "lamps\nwish"),
    ("", [[], []], "lamps\nwish\nwish"),
    ("fo", [[1, -2]], "lamps fo\nwish 1 -2"),
    ("fo", [[], [2]], "lamps fo\nwish\nwish 2"),
    ("fo", [[2], []], "lamps fo\nwish 2\nwish"),
    ("of", [[2, -1], [-2, 1]], "lamps of\nwish 2 -1\nwish -2 1"),
    ("f", [[1, 1], [1, -1], [1, 1]], "lamps f\nwish 1 1\nwish 1 -1\nwish 1 1"),
    (TEN, [[10], [-10]], "lamps fofofofofo\nwish 10\nwish -10"),
    ("o" * 10, [[10, 9, 8, 7, 6, -5, -4, -3, -2, -1]], "lamps oooooooooo\nwish 10 9 8 7 6 -5 -4 -3 -2 -1"),
    ("f", [[1]] * 20, "lamps f" + "\nwish 1" * 20),
)

# None of these is written as point 13 says.
BADLY_WRITTEN = (
    # rows that are not there, or stand elsewhere
    "", "\n", "\nlamps", "wish", "wish 1", "wish 1\nlamps f", "lamps f\nlamps f", "lamps f\n\nwish 1",
    "lamps f\nwish 1\nlamps f",
    # a line end behind the last row
    "lamps\n", "lamps f\n", "lamps f\nwish 1\n", "lamps f\nwish\n", "lamps\n\n",
    # the row of the lamps
    "lamps ", "lamps \nwish", "lamp f", "lampsf", "lampss f", "Lamps f", "LAMPS f", " lamps f", "lamps\tf", "lamp",
    "f", "fo", "wishlamps f", "lamps-f",
    # the word of a wish
    "lamps f\nwishes 1", "lamps f\nwish1", "lamps f\nWish 1", "lamps f\n wish 1", "lamps f\n1", "lamps f\nwis 1",
    "lamps f\n", "lamps f\n ", "lamps f\nwish-1", "lamps f\nwish\t1", "lamps f\nwish,1",
    # blanks in a wish's row
    "lamps f\nwish ", "lamps f\nwish  ", "lamps f\nwish  1", "lamps f\nwish 1 ", "lamps f\nwish 1  -1",
    "lamps f\nwish 1 -1 ", "lamps f\nwish\t", "lamps f\nwish 1\t", "lamps f\nwish 1\t1", "lamps f\nwish \t1",
    # numbers
    "lamps f\nwish 0", "lamps f\nwish -0", "lamps f\nwish 00", "lamps f\nwish 01", "lamps f\nwish -01",
    "lamps f\nwish +1", "lamps f\nwish --1", "lamps f\nwish -", "lamps f\nwish - 1", "lamps f\nwish 1-",
    "lamps f\nwish 1.0", "lamps f\nwish 1,1", "lamps f\nwish 1_1", "lamps f\nwish 0x1", "lamps f\nwish x",
    "lamps f\nwish 1e0", "lamps f\nwish 1 x", "lamps f\nwish x 1", "lamps f\nwish one", "lamps f\nwish -+1",
    "lamps f\nwish 1 0", "lamps f\nwish 0 1", "lamps f\nwish 1\nwish 0", "lamps f\nwish (1)", "lamps f\nwish 1-1",
    "lamps f\nwish 1;", "lamps f\nwish f", "lamps f\nwish wish", "lamps f\nwish /", "lamps f\nwish 1:",
    # too many figures
    "lamps f\nwish 1" + "0" * 60, "lamps f\nwish -1" + "0" * 60, "lamps f\nwish " + SIXTY + "1",
    "lamps f\nwish 1 " + SIXTY + "1", "lamps f\nwish " + "9" * 200, "lamps f\nwish 0" + SIXTY,
    "lamps f\nwish " + "0" * 60,
)

# All of these are written as point 13 says and tell no game.
NO_GAMES = (
    # other signs among the setters, taken as they stand
    "lamps x", "lamps F", "lamps fox", "lamps f o", "lamps  f", "lamps f ", "lamps  ", "lamps fo\t", "lamps \tfo",
    "lamps 1", "lamps -", "lamps f\to", "lamps lamps f", "lamps f,o", "lamps wish 1", "lamps x\nwish 1",
    # too much of something
    "lamps " + "f" * 11, "lamps " + TEN + "f\nwish 1", "lamps f" + "\nwish 1" * 21, "lamps" + "\nwish" * 21,
    "lamps f\nwish" + " 1" * 11, "lamps " + TEN + "\nwish 1 2 3 4 5 6 7 8 9 10 -1",
    # lamps that are not there
    "lamps\nwish 1", "lamps\nwish -1", "lamps f\nwish 2", "lamps f\nwish -2", "lamps fo\nwish 1\nwish 2 3",
    "lamps " + TEN + "\nwish 11", "lamps " + TEN + "\nwish -11",
    # up to sixty figures
    "lamps f\nwish " + SIXTY, "lamps f\nwish -" + SIXTY, "lamps f\nwish 1" + "0" * 59, "lamps f\nwish -" + "9" * 60,
)

# A fault of the text and one of the game, either one ahead.
BOTH_FAULTS = (
    "lamps x\nwish 01", "lamps x\n", "lamps  f\nwish 1 ", "lamps " + "f" * 11 + "\nwish  1", "lamps f o\nwish 0",
    "lamps f\nwish 2\nwish 0", "lamps f\nwish 0\nwish 2", "lamps f\nwish 2 ", "lamps\nwish 1\n", "lamps f\nwish 2 x",
    "lamps f" + "\nwish 1" * 21 + "\n", "lamps f" + "\nwish 1" * 21 + "\nwish -0", "lamps f\nwish" + " 1" * 11 + " ",
    "lamps f\nwish" + " 1" * 11 + " 01", "lamps f\nwish -" + SIXTY + "\nwish " + SIXTY + "1", "lamps \nwish 1",
    "lamps f\nwish 5\nlamps f", "wish 3", "lamps X\nwishes",
)


class Interface(unittest.TestCase):
    def test_the_functions_stand_in_this_file_with_their_arguments(self):
        for name, arguments in {"shown": ["setters", "wishes"], "read": ["text"]}.items():
            with self.subTest(name=name):
                found = getattr(notes, name)
                self.assertEqual(found.__module__, "everywish.notes")
                self.assertEqual(list(inspect.signature(found).parameters), arguments)


class Shown(unittest.TestCase):
    def test_sign_by_sign(self):
        for setters, wishes, text in WRITTEN:
            with self.subTest(text=text):
                found = shown(setters, wishes)
                self.assertIs(type(found), str)
                self.assertEqual(found, text)

    def test_what_goes_beyond_the_bounds_raises_no_error(self):
        self.assertEqual(shown("f" * 11, []), "lamps " + "f" * 11)
        self.assertEqual(shown("f", [[1]] * 21), "lamps f" + "\nwish 1" * 21)
        self.assertEqual(shown("f", [[1] * 11]), "lamps f\nwish" + " 1" * 11)
        self.assertEqual(shown("f", [[2, -3]]), "lamps f\nwish 2 -3")


class Read(unittest.TestCase):
    def test_what_is_written_is_read(self):
        for setters, wishes, text in WRITTEN:
            with self.subTest(text=text):
                self.assertEqual(read(text), (setters, wishes))

    def test_the_kinds_of_what_is_told(self):
        for _, _, text in WRITTEN:
            with self.subTest(text=text):
                told = read(text)
                self.assertIs(type(told), tuple)
                self.assertEqual([type(part) for part in told], [str, list])
                for one in told[1]:
                    self.assertIs(type(one), list)
                    self.assertEqual({type(number) for number in one} - {int}, set())

    def test_mixed_games_are_read_as_they_were_written(self):
        for setters, wishes in oracle.games(21, 300, (0, 10), (0, 20), (0, 10)):
            self.assertEqual(read(shown(setters, wishes)), (setters, wishes))

    def test_each_text_that_is_read_is_written_the_same(self):
        for _, _, text in WRITTEN:
            with self.subTest(text=text):
                self.assertEqual(shown(*read(text)), text)

    def refuses(self, texts, kind):
        for text in texts:
            with self.subTest(text=text):
                with self.assertRaises(kind) as caught:
                    read(text)
                self.assertIs(type(caught.exception), kind)

    def test_what_is_not_written_so(self):
        self.refuses(BADLY_WRITTEN, BadText)

    def test_what_is_written_so_and_tells_no_game(self):
        self.refuses(NO_GAMES, BadGame)

    def test_both_faults(self):
        self.refuses(BOTH_FAULTS, BadText)

    def test_games_with_a_fault_that_are_written(self):
        # A number 0 is the one fault that cannot be written at all.
        for setters, wishes in oracle.BAD_GAMES:
            kind = BadText if any(0 in one for one in wishes) else BadGame
            self.refuses([shown(setters, wishes)], kind)

    def test_each_sign_in_the_place_of_another_one(self):
        text = "lamps fo\nwish 1 -2"
        for at in range(len(text)):
            for sign in map(chr, [9, 10, *range(32, 37), *range(38, 127)]):
                self.reads_what_it_writes(text[:at] + sign + text[at + 1:])
                self.reads_what_it_writes(text[:at] + sign + text[at:])
            self.reads_what_it_writes(text[:at] + text[at + 1:])

    def reads_what_it_writes(self, text):
        # Each text is refused, or is just what its game is written as.
        try:
            told = read(text)
        except (BadText, BadGame):
            return
        self.assertEqual(shown(*told), text)


class NothingIsChanged(unittest.TestCase):
    """Point 1."""

    def test_the_wishes_stay(self):
        for setters, wishes, _ in WRITTEN:
            was = copy.deepcopy(wishes)
            shown(setters, wishes)
            self.assertEqual(wishes, was)

    def test_what_is_read_is_new_each_time(self):
        text = "lamps fo\nwish 1 -2\nwish"
        wishes = read(text)[1]
        wishes[1].append(7)
        wishes.append([])
        self.assertEqual(read(text), ("fo", [[1, -2], []]))


if __name__ == "__main__":
    unittest.main()
