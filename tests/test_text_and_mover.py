"""Promise 3: ot_text and ot_mover."""

import unittest

from tests.helper import (
    BEGIN, BEGINNING, LONGEST_GAME, MOVER, SHORT_GAME, TEXT, ask, board, bytes_of, play, plays, put,
)


class Text(unittest.TestCase):
    def test_zero_and_the_64_bytes(self):
        self.assertEqual(ask(BEGIN, TEXT)[1], [0] + bytes_of(BEGINNING))

    def test_signs(self):
        found = ask(BEGIN, TEXT)[1]
        self.assertEqual([found[1 + square] for square in (26, 27, 28, 35, 36)], [45, 79, 88, 88, 79])

    def test_from_square_0_on(self):
        for square in range(64):
            for sign in "XO":
                text = board({square: sign})
                self.assertEqual(ask(BEGIN, put(1, text), TEXT)[2], [0] + bytes_of(text))

    def test_first_and_last_squares_differ(self):
        text = board({0: "X", 7: "O", 8: "O", 56: "O", 63: "X"})
        found = ask(BEGIN, put(2, text), TEXT)[2]
        self.assertEqual([found[1 + square] for square in (0, 7, 8, 56, 63)], [88, 79, 79, 79, 88])
        self.assertEqual(found.count(45), 59)

    def test_after_moves(self):
        text = board({19: "X", 27: "X", 28: "X", 35: "X", 36: "O"})
        self.assertEqual(ask(BEGIN, play(19), TEXT)[2], [0] + bytes_of(text))
        text = board({18: "O", 19: "X", 27: "O", 28: "X", 35: "X", 36: "O"})
        self.assertEqual(ask(BEGIN, play(19), play(18), TEXT)[3], [0] + bytes_of(text))

    def test_when_the_game_is_over(self):
        text = "-" * 13 + "O------OO-----OOOOO---OOO-----OOO------------------"
        self.assertEqual(ask(BEGIN, *plays(SHORT_GAME), TEXT)[-1], [0] + bytes_of(text))

    def test_looking_changes_nothing(self):
        self.assertEqual(ask(BEGIN, TEXT, MOVER, TEXT, MOVER)[1:3], ask(BEGIN, TEXT, MOVER, TEXT, MOVER)[3:5])


class Mover(unittest.TestCase):
    def test_the_first_then_the_second_and_so_on(self):
        found = ask(BEGIN, MOVER, play(44), MOVER, play(29), MOVER, play(20), MOVER)
        self.assertEqual(found[1::2], [[1], [2], [1], [2]])

    def test_none_when_the_game_is_over(self):
        for game in (SHORT_GAME, LONGEST_GAME):
            self.assertEqual(ask(BEGIN, *plays(game[:-1]), MOVER, play(game[-1]), MOVER)[-1], [0])
            self.assertNotEqual(ask(BEGIN, *plays(game[:-1]), MOVER)[-1], [0])

    def test_none_on_a_board_without_moves(self):
        self.assertEqual(ask(BEGIN, put(2, "O" * 64), MOVER)[-1], [0])

    def test_as_put(self):
        self.assertEqual(ask(BEGIN, put(2, BEGINNING), MOVER, put(1, BEGINNING), MOVER)[2::2], [[2], [1]])


if __name__ == "__main__":
    unittest.main()
