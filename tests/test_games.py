"""Promise 7: ot_games."""

import random
import unittest

from tests.helper import (
    BACK, BEGIN, BEGINNING, GREATEST, LEAST, LONGEST_GAME, SHORT_GAME, Model, after, ask, board, games, play, plays, put,
)

ALL_DEPTHS = [games(depth) for depth in range(10)]
NO_DEPTHS = (-1, 10, 11, -2, -9, 64, 2 ** 30, GREATEST, LEAST, GREATEST - 1, LEAST + 1)
# Counted by another program too, every way by itself. Up to the eighth move nobody is passed over.
FROM_THE_BEGINNING = (1, 4, 12, 56, 244, 1396, 8200, 55092, 390216, 3005320)


class Games(unittest.TestCase):
    def ways(self, *ahead):
        """In how many ways it goes on after the calls, for 0 to 9 moves."""
        return [answer for (answer,) in ask(*ahead, *ALL_DEPTHS)[-10:]]

    def test_from_the_beginning(self):
        for depth, ways in enumerate(FROM_THE_BEGINNING):
            self.assertEqual(ask(BEGIN, games(depth))[1], [ways], depth)

    def test_the_second_at_the_beginning(self):
        found = ask(BEGIN, put(2, BEGINNING), *ALL_DEPTHS[:7])[2:]
        self.assertEqual(found, [[ways] for ways in FROM_THE_BEGINNING[:7]])

    def test_after_moves(self):
        for length in (1, 5, 13, 30):
            model = Model()
            for square in LONGEST_GAME[:length]:
                model.play(square)
            found = ask(BEGIN, *plays(LONGEST_GAME[:length]), *ALL_DEPTHS[:4])[-4:]
            self.assertEqual(found, [[model.games(depth)] for depth in range(4)], length)

    def test_one_move_deep_is_the_number_of_moves(self):
        for length in range(60):
            ahead = [BEGIN, *plays(LONGEST_GAME[:length])]
            self.assertEqual(ask(*ahead, games(1))[-1], [len(after(*ahead)[2])])

    def test_near_the_end(self):
        for length in (54, 55, 56, 57, 58, 59):
            model = Model()
            for square in LONGEST_GAME[:length]:
                model.play(square)
            ways = self.ways(BEGIN, *plays(LONGEST_GAME[:length]))
            self.assertEqual(ways, [model.games(depth) for depth in range(10)], length)

    def test_near_the_end_of_any_game(self):
        choice = random.Random(32)
        for number in range(30):
            empty = choice.sample(range(64), choice.randrange(1, 6))
            text = "".join("-" if square in empty else choice.choice("XO") for square in range(64))
            model = Model()
            model.put(choice.choice((1, 2)), text)
            if model.mover != 0:
                ways = self.ways(BEGIN, put(model.mover, text))
                self.assertEqual(ways, [model.games(depth) for depth in range(10)], text)

    def test_boards_on_which_many_are_passed_over(self):
        choice = random.Random(33)
        passed = 0
        for number in range(80):
            text = "".join(choice.choices("XO-", choice.choice(((30, 1, 2), (1, 30, 2))), k=64))
            model = Model()
            model.put(1 + number % 2, text)
            passed += sum(after_it.mover == model.mover for square, after_it in model.behind())
            found = ask(BEGIN, put(1 + number % 2, text), *ALL_DEPTHS[:5])[2:]
            self.assertEqual(found, [[model.games(depth)] for depth in range(5)], text)
        self.assertGreater(passed, 20)

    def test_depth_0_is_one_way(self):
        for text in (BEGINNING, "-" * 64, "X" * 64, board({0: "X", 1: "O"}), board({0: "X", 63: "O"})):
            self.assertEqual(ask(BEGIN, put(1, text), games(0))[2], [1])
        self.assertEqual(ask(BEGIN, *plays(SHORT_GAME), games(0))[-1], [1])

    def test_one_way_when_the_game_is_over(self):
        for text in ("-" * 64, "X" * 64, "O" * 64, "XO" * 32, board({0: "X", 63: "O"})):
            self.assertEqual(self.ways(BEGIN, put(1, text)), [1] * 10)
        for game in (SHORT_GAME, LONGEST_GAME):
            self.assertEqual(self.ways(BEGIN, *plays(game)), [1] * 10)

    def test_a_game_that_ends_sooner_is_one_way(self):
        self.assertEqual(self.ways(BEGIN, put(1, board({0: "X", 1: "O"}))), [1] * 10)
        # The first can end it with either of two moves.
        self.assertEqual(self.ways(BEGIN, put(1, board({2: "X", 3: "O", 1: "O"}))), [1, 2, 2] + [2] * 7)

    def test_some_end_sooner_and_some_go_on(self):
        model = Model()
        for square in SHORT_GAME[:9]:
            model.play(square)
        ended = sum(after_it.mover == 0 for square, after_it in model.behind())
        self.assertEqual(ended, 1)
        ways = ask(BEGIN, *plays(SHORT_GAME[:9]), games(1), games(2), games(3))[-3:]
        self.assertEqual(ways, [[model.games(1)], [model.games(2)], [model.games(3)]])

    def test_being_passed_over_is_no_move(self):
        # One moves three times, in any order; the other never can.
        for mover, own, other in ((1, "X", "O"), (2, "O", "X")):
            text = board({0: own, 1: other, 24: own, 25: other, 56: own, 57: other})
            for handed_in in (1, 2):
                calls = [BEGIN, put(handed_in, text)]
                self.assertEqual(after(*calls)[1], mover)
                self.assertEqual(self.ways(*calls), [1, 3, 6, 6, 6, 6, 6, 6, 6, 6])

    def test_refused(self):
        for ahead in ([BEGIN], [BEGIN, *plays(SHORT_GAME)], [BEGIN, put(1, "X" * 64)]):
            found = ask(*ahead, *[games(depth) for depth in NO_DEPTHS])
            self.assertEqual(found[len(ahead):], [[-1]] * len(NO_DEPTHS))

    def test_changes_nothing(self):
        ahead = [BEGIN, play(19), play(18)]
        asked = [*ahead, *ALL_DEPTHS[:5], *[games(depth) for depth in NO_DEPTHS]]
        self.assertEqual(after(*asked), after(*ahead))
        self.assertEqual(after(*asked, BACK), after(*ahead, BACK))
        self.assertEqual(ask(*asked, BACK, BACK, BACK)[-3:], [[0], [0], [-1]])


if __name__ == "__main__":
    unittest.main()
