"""Promise 2: ot_put."""

import unittest

from tests.helper import (
    BACK, BEGIN, BEGINNING, GREATEST, LEAST, SEEN, SHORT_GAME, after, ask, board, play, plays, put, seen,
)

EMPTY = "-" * 64
# The first can move on 2, the second nowhere.
ONLY_FIRST = board({0: "X", 1: "O"})
# The second can move on 2, the first nowhere.
ONLY_SECOND = board({0: "O", 1: "X"})
# Either can move.
EITHER = board({9: "X", 10: "O", 17: "O", 18: "X"})


class PutRefused(unittest.TestCase):
    def refused(self, *bad_calls):
        """Each is refused in the middle of a game, and board, mover, moves and what's before stay."""
        ahead = [BEGIN, play(44), play(29)]
        found = ask(*ahead, *bad_calls)
        self.assertEqual(found[3:], [[-1]] * len(bad_calls))
        self.assertEqual(after(*ahead, *bad_calls), after(*ahead))
        backs = ask(*ahead, *bad_calls, BACK, *SEEN, BACK, *SEEN, BACK)[-9:]
        self.assertEqual((backs[0], backs[4], backs[8]), ([0], [0], [-1]))
        self.assertEqual(seen(backs[1:4]), after(BEGIN, play(44)))
        self.assertEqual(seen(backs[5:8]), after(BEGIN))

    def test_every_other_byte_in_the_first_and_in_the_last_place(self):
        for byte in range(256):
            for place in (0, 63):
                text = [ord(sign) for sign in BEGINNING]
                text[place] = byte
                told = [0] if byte in (88, 79, 45) else [-1]
                self.assertEqual(ask(BEGIN, put(1, text), put(2, text))[1:], [told, told], (place, byte))

    def test_a_wrong_byte_in_any_place(self):
        for place in range(64):
            text = EITHER[:place] + "x" + EITHER[place + 1:]
            self.assertEqual(ask(BEGIN, put(1, text)), [[0], [-1]], place)

    def test_a_wrong_byte_changes_nothing(self):
        for byte in (0, 1, 2, 32, 44, 46, 48, 78, 80, 87, 89, 111, 120, 255):
            text = [ord(sign) for sign in EITHER]
            text[63] = byte
            self.refused(put(1, text), put(2, text))

    def test_a_wrong_mover_changes_nothing(self):
        for mover in (0, 3, 4, -1, -2, 79, 88, 257, GREATEST, LEAST, 2 ** 30, -2 ** 30 + 1):
            self.refused(put(mover, EITHER))

    def test_both_wrong(self):
        self.refused(put(0, EITHER[:63] + "?"), put(3, [0] * 64))

    def test_refused_when_the_game_is_over(self):
        ahead = [BEGIN, *plays(SHORT_GAME)]
        self.assertEqual(ask(*ahead, put(3, EITHER))[-1], [-1])
        self.assertEqual(after(*ahead, put(3, EITHER)), after(*ahead))
        self.assertEqual(after(*ahead, put(3, EITHER))[1:], (0, []))
        self.assertEqual(ask(*ahead, put(3, EITHER), BACK)[-1], [0])


class PutTaken(unittest.TestCase):
    def taken(self, mover, text, who, moves):
        """The board stands, who moves and what the moves are is as told, and nothing is before it."""
        for ahead in ([BEGIN], [BEGIN, play(44), play(29)], [BEGIN, *plays(SHORT_GAME)]):
            calls = [*ahead, put(mover, text)]
            self.assertEqual(ask(*calls)[-1], [0])
            self.assertEqual(after(*calls), (text, who, moves))
            self.assertEqual(ask(*calls, BACK)[-1], [-1])
            self.assertEqual(after(*calls, BACK), (text, who, moves))

    def test_mover_can_move(self):
        self.taken(1, EITHER, 1, [2, 11, 16, 25])
        self.taken(2, EITHER, 2, [1, 8, 19, 26])
        self.taken(1, ONLY_FIRST, 1, [2])
        self.taken(2, ONLY_SECOND, 2, [2])
        self.taken(1, BEGINNING, 1, [19, 26, 37, 44])
        self.taken(2, BEGINNING, 2, [20, 29, 34, 43])

    def test_only_the_other_can_move(self):
        self.taken(2, ONLY_FIRST, 1, [2])
        self.taken(1, ONLY_SECOND, 2, [2])

    def test_neither_can_move(self):
        for mover in (1, 2):
            for text in (EMPTY, "X" * 64, "O" * 64, "XO" * 32, board({5: "X"}), board({0: "X", 63: "O"})):
                self.taken(mover, text, 0, [])

    def test_full_but_for_the_last_square(self):
        text = "X" + "O" * 62 + "-"
        self.taken(1, text, 1, [63])
        self.taken(2, text, 1, [63])

    def test_a_game_goes_on_from_it(self):
        calls = [BEGIN, play(44), put(2, BEGINNING), play(20)]
        self.assertEqual(ask(*calls)[-1], [1])
        self.assertEqual(ask(*calls, BACK, BACK)[-2:], [[0], [-1]])
        self.assertEqual(after(*calls, BACK), (BEGINNING, 2, [20, 29, 34, 43]))

    def test_one_board_after_another(self):
        calls = [BEGIN, put(1, ONLY_FIRST), play(2), put(1, ONLY_SECOND)]
        self.assertEqual(after(*calls), (ONLY_SECOND, 2, [2]))
        self.assertEqual(ask(*calls, BACK)[-1], [-1])


if __name__ == "__main__":
    unittest.main()
