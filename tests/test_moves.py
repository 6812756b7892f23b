"""Promise 4: ot_moves."""

import unittest

from tests.helper import BEGIN, LONGEST_GAME, MOVES, SHORT_GAME, Model, after, ask, board, play, plays, put


class Moves(unittest.TestCase):
    def test_at_the_beginning(self):
        self.assertEqual(ask(BEGIN, MOVES)[1], [4, 2 ** 19 + 2 ** 26 + 2 ** 37 + 2 ** 44])

    def test_after_moves(self):
        self.assertEqual(ask(BEGIN, play(19), MOVES)[2], [3, 2 ** 18 + 2 ** 20 + 2 ** 34])
        self.assertEqual(
            ask(BEGIN, play(19), play(18), MOVES)[3],
            [4, 2 ** 17 + 2 ** 26 + 2 ** 37 + 2 ** 44],
        )

    def test_with_square_63(self):
        self.assertEqual(ask(BEGIN, put(1, board({61: "X", 62: "O"})), MOVES)[2], [1, 2 ** 63])
        self.assertEqual(ask(BEGIN, put(2, board({45: "O", 54: "X"})), MOVES)[2], [1, 2 ** 63])
        text = board({61: "X", 62: "O", 1: "O", 2: "X"})
        self.assertEqual(ask(BEGIN, put(1, text), MOVES)[2], [2, 2 ** 63 + 1])

    def test_with_square_0_alone(self):
        self.assertEqual(ask(BEGIN, put(1, board({1: "O", 2: "X"})), MOVES)[2], [1, 1])

    def test_each_square_alone(self):
        for square in range(64):
            step = 1 if square % 8 < 4 else -1
            text = board({square + step: "O", square + 2 * step: "X"})
            self.assertEqual(ask(BEGIN, put(1, text), MOVES)[2], [1, 2 ** square])

    def test_only_those_of_the_one_who_moves(self):
        text = board({0: "X", 1: "O", 61: "X", 62: "O"})
        self.assertEqual(ask(BEGIN, put(1, text), MOVES)[2], [2, 2 ** 2 + 2 ** 63])
        self.assertEqual(ask(BEGIN, put(2, text), MOVES)[2], [1, 2 ** 60])

    def test_held_squares_are_none(self):
        text = board({0: "X", 1: "O", 2: "X", 40: "X", 41: "O"})
        self.assertEqual(ask(BEGIN, put(1, text), MOVES)[2], [1, 2 ** 42])
        text = board({0: "X", 1: "O", 2: "O", 3: "O", 40: "X", 41: "O", 4: "X"})
        self.assertEqual(ask(BEGIN, put(1, text), MOVES)[2], [1, 2 ** 42])
        self.assertEqual(ask(BEGIN, put(1, "XOOX" + "O" * 60), MOVES)[2], [0, 0])

    def test_the_longest_rows(self):
        self.assertEqual(ask(BEGIN, put(1, "XOOOOOO-" + "-" * 56), MOVES)[2], [1, 2 ** 7])
        diagonal = board({0: "X", 9: "O", 18: "O", 27: "O", 36: "O", 45: "O", 54: "O"})
        self.assertEqual(ask(BEGIN, put(1, diagonal), MOVES)[2], [1, 2 ** 63])

    def test_none_when_the_game_is_over(self):
        for game in (SHORT_GAME, LONGEST_GAME):
            self.assertEqual(ask(BEGIN, *plays(game), MOVES)[-1], [0, 0])
        for text in ("-" * 64, "X" * 64, "XO" * 32, board({0: "X", 63: "O"})):
            self.assertEqual(ask(BEGIN, put(1, text), MOVES)[-1], [0, 0])

    def test_through_a_whole_game(self):
        model = Model()
        calls = [BEGIN]
        for square in LONGEST_GAME:
            self.assertEqual(after(*calls), model.seen())
            calls.append(play(square))
            model.play(square)
        self.assertEqual(after(*calls), model.seen())


if __name__ == "__main__":
    unittest.main()
