"""Promise 6: ot_back."""

import unittest

from tests.helper import (
    BACK, BEGIN, BEGINNING, LONGEST_GAME, SEEN, SHORT_GAME, after, ask, board, play, plays, put, seen,
)
from turnstones.position import Position
from turnstones.session import Session


class Back(unittest.TestCase):
    def test_none_at_the_beginning(self):
        self.assertEqual(ask(BEGIN, BACK, BACK), [[0], [-1], [-1]])
        self.assertEqual(after(BEGIN, BACK), after(BEGIN))

    def test_one_move(self):
        self.assertEqual(ask(BEGIN, play(19), BACK)[-1], [0])
        self.assertEqual(after(BEGIN, play(19), BACK), after(BEGIN))

    def test_several_to_the_beginning_and_once_more(self):
        ahead = [BEGIN, *plays(SHORT_GAME[:4])]
        found = ask(*ahead, BACK, BACK, BACK, BACK, BACK)
        self.assertEqual(found[-5:], [[0], [0], [0], [0], [-1]])
        for count in range(5):
            self.assertEqual(after(*ahead, *[BACK] * count), after(BEGIN, *plays(SHORT_GAME[:4 - count])))
        self.assertEqual(after(*ahead, *[BACK] * 5), after(BEGIN))

    def test_after_a_refused_move(self):
        for square in (19, 27, 0, -1, 64):
            calls = [BEGIN, play(19), play(18), play(square), BACK]
            self.assertEqual(ask(*calls)[-2:], [[-1], [0]])
            self.assertEqual(after(*calls), after(BEGIN, play(19)))

    def test_after_a_refused_move_at_the_beginning(self):
        self.assertEqual(ask(BEGIN, play(0), BACK), [[0], [-1], [-1]])

    def test_after_a_refused_back(self):
        calls = [BEGIN, BACK, play(19), BACK, BACK]
        self.assertEqual(ask(*calls), [[0], [-1], [1], [0], [-1]])

    def test_another_move_after_it(self):
        calls = [BEGIN, play(19), play(18), BACK, play(34)]
        self.assertEqual(after(*calls), after(BEGIN, play(19), play(34)))
        self.assertEqual(after(*calls, BACK), after(BEGIN, play(19)))
        self.assertEqual(ask(*calls, BACK, BACK, BACK)[-3:], [[0], [0], [-1]])

    def test_when_the_game_is_over(self):
        calls = [BEGIN, *plays(SHORT_GAME), BACK]
        self.assertEqual(after(*calls), after(BEGIN, *plays(SHORT_GAME[:-1])))
        self.assertEqual(after(*calls)[1], 2)

    def test_over_one_that_was_passed_over(self):
        for mover, own, other in ((1, "X", "O"), (2, "O", "X")):
            text = board({0: own, 1: other, 56: own, 57: other})
            calls = [BEGIN, put(mover, text), play(2), play(58), BACK]
            self.assertEqual(after(*calls), (board({0: own, 1: own, 2: own, 56: own, 57: other}), mover, [58]))
            self.assertEqual(after(*calls, BACK), after(BEGIN, put(mover, text)))
            self.assertEqual(ask(*calls, BACK, BACK)[-2:], [[0], [-1]])

    def test_to_a_board_that_was_put_for_one_who_can_t_move(self):
        text = board({0: "X", 1: "O"})
        self.assertEqual(after(BEGIN, put(2, text), play(2), BACK), (text, 1, [2]))

    def test_no_further_than_a_board_that_was_put(self):
        calls = [BEGIN, play(19), put(2, BEGINNING), play(20), BACK, BACK]
        self.assertEqual(ask(*calls)[-2:], [[0], [-1]])
        self.assertEqual(after(*calls), (BEGINNING, 2, [20, 29, 34, 43]))

    def test_a_game_as_long_as_can_be(self):
        ahead = [BEGIN, *plays(LONGEST_GAME)]
        found = ask(*ahead, *[call for count in range(60) for call in (BACK, *SEEN)], BACK)
        self.assertNotIn([-1], found[:-1])
        self.assertEqual(found[-1], [-1])
        steps = found[61:-1]
        for count in range(60):
            self.assertEqual(steps[4 * count], [0])
            at = seen(steps[4 * count + 1:4 * count + 4])
            self.assertEqual(at, after(BEGIN, *plays(LONGEST_GAME[:59 - count])))

    def test_moves_taken_back_count_for_nothing(self):
        there_and_back = [play(18), BACK] * 190
        found = ask(BEGIN, play(19), *there_and_back, BACK, BACK)
        self.assertEqual(found[2:-2], [[1], [0]] * 190)
        self.assertEqual(found[-2:], [[0], [-1]])


class Kept(unittest.TestCase):
    """No game is long enough to reach the 128, so the session is asked straight."""

    def kept(self, count):
        """The marks of the positions that are taken back to after so many moves."""
        session = Session()
        for mark in range(1, count + 1):
            session.go_on_to(Position(mark, 0, 1))
        found = []
        while session.back() == 0:
            found.append(session.position.first)
        return found

    def test_up_to_128(self):
        self.assertEqual(len(self.kept(127)), 127)
        self.assertEqual(len(self.kept(128)), 128)

    def test_the_last_128(self):
        self.assertEqual(self.kept(129), list(range(128, 0, -1)))
        self.assertEqual(self.kept(300), list(range(299, 171, -1)))


if __name__ == "__main__":
    unittest.main()
