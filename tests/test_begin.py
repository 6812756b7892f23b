"""Promise 1: ot_begin."""

import unittest

from tests.helper import BACK, BEGIN, BEGINNING, LONGEST_GAME, SHORT_GAME, after, ask, play, plays, put

AT_THE_BEGINNING = (BEGINNING, 1, [19, 26, 37, 44])


class Begin(unittest.TestCase):
    def test_answers_zero(self):
        self.assertEqual(ask(BEGIN), [[0]])

    def test_the_beginning(self):
        self.assertEqual(after(BEGIN), AT_THE_BEGINNING)

    def test_d4_and_e5_are_the_second_s(self):
        text = after(BEGIN)[0]
        self.assertEqual([square for square in range(64) if text[square] == "O"], [27, 36])
        self.assertEqual([square for square in range(64) if text[square] == "X"], [28, 35])

    def test_nothing_before_it(self):
        self.assertEqual(ask(BEGIN, BACK), [[0], [-1]])

    def test_again_at_once(self):
        self.assertEqual(after(BEGIN, BEGIN), AT_THE_BEGINNING)

    def test_again_in_the_middle_of_a_game(self):
        calls = [BEGIN, play(44), play(29), play(20), BEGIN]
        self.assertEqual(ask(*calls)[-1], [0])
        self.assertEqual(after(*calls), AT_THE_BEGINNING)

    def test_again_leaves_nothing_before_it(self):
        calls = [BEGIN, play(44), play(29), play(20), BEGIN, BACK]
        self.assertEqual(ask(*calls)[-2:], [[0], [-1]])
        self.assertEqual(after(*calls), AT_THE_BEGINNING)

    def test_back_goes_no_further_than_the_last_begin(self):
        calls = [BEGIN, play(44), play(29), BEGIN, play(19), BACK, BACK]
        self.assertEqual(ask(*calls)[-2:], [[0], [-1]])
        self.assertEqual(after(*calls), AT_THE_BEGINNING)

    def test_again_when_the_game_is_over(self):
        for game in (SHORT_GAME, LONGEST_GAME):
            calls = [BEGIN, *plays(game), BEGIN]
            self.assertEqual(after(*calls), AT_THE_BEGINNING)
            self.assertEqual(ask(*calls, BACK)[-1], [-1])

    def test_again_after_a_board_was_put(self):
        calls = [BEGIN, put(2, "X" * 32 + "O" * 31 + "-"), BEGIN]
        self.assertEqual(after(*calls), AT_THE_BEGINNING)


if __name__ == "__main__":
    unittest.main()
