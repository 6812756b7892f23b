"""Promise 3: ot_count."""

import random
import unittest

from tests.helper import (
    BACK, BEGIN, GREATEST, LEAST, LONGEST_GAME, SHORT_GAME, Model, after, ask, board, count, play, plays, put,
)

THREE = (count(0), count(1), count(2))
NONE_OF_THESE = (-1, 3, 4, -2, 45, 79, 88, 64, 2 ** 30, GREATEST, LEAST, GREATEST - 1, LEAST + 1)


class Count(unittest.TestCase):
    def counted(self, *ahead):
        """What the three counts answer after the calls."""
        return [answer for (answer,) in ask(*ahead, *THREE)[-3:]]

    def test_at_the_beginning(self):
        self.assertEqual(self.counted(BEGIN), [60, 2, 2])

    def test_after_moves(self):
        self.assertEqual(self.counted(BEGIN, play(19)), [59, 4, 1])
        self.assertEqual(self.counted(BEGIN, play(19), play(18)), [58, 3, 3])
        self.assertEqual(self.counted(BEGIN, play(19), play(18), BACK), [59, 4, 1])

    def test_an_empty_board(self):
        self.assertEqual(self.counted(BEGIN, put(1, "-" * 64)), [64, 0, 0])

    def test_full_boards(self):
        self.assertEqual(self.counted(BEGIN, put(1, "X" * 64)), [0, 64, 0])
        self.assertEqual(self.counted(BEGIN, put(2, "O" * 64)), [0, 0, 64])
        self.assertEqual(self.counted(BEGIN, put(2, "O" * 40 + "X" * 24)), [0, 24, 40])

    def test_each_square_counts(self):
        for square in range(64):
            self.assertEqual(self.counted(BEGIN, put(1, board({square: "X"}))), [63, 1, 0])
            self.assertEqual(self.counted(BEGIN, put(1, board({square: "O"}))), [63, 0, 1])

    def test_when_the_game_is_over(self):
        self.assertEqual(self.counted(BEGIN, *plays(SHORT_GAME)), [50, 0, 14])
        self.assertEqual(self.counted(BEGIN, *plays(LONGEST_GAME))[0], 0)

    def test_whichever_moves(self):
        for mover in (1, 2):
            self.assertEqual(self.counted(BEGIN, put(mover, board({0: "X", 1: "O", 2: "O"}))), [61, 1, 2])

    def test_any_board(self):
        choice = random.Random(31)
        for number in range(60):
            model = Model()
            model.put(1, "".join(choice.choices("XO-", (3, 2, choice.randrange(1, 9)), k=64)))
            self.assertEqual(self.counted(BEGIN, put(1, model.board)), [model.count(which) for which in range(3)])

    def test_refused(self):
        found = ask(BEGIN, *[count(which) for which in NONE_OF_THESE])
        self.assertEqual(found[1:], [[-1]] * len(NONE_OF_THESE))

    def test_changes_nothing(self):
        ahead = [BEGIN, play(19), play(18)]
        asked = [*ahead, *THREE, *[count(which) for which in NONE_OF_THESE]]
        self.assertEqual(after(*asked), after(*ahead))
        self.assertEqual(ask(*asked, BACK, BACK, BACK)[-3:], [[0], [0], [-1]])


if __name__ == "__main__":
    unittest.main()
