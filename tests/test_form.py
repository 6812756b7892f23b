"""Promise 10: ot_form."""

import random
import unittest

from tests.helper import (
    BACK, BEGIN, BEGINNING, FORM, LONGEST_GAME, SHORT_GAME, Model, after, ask, board, play, plays, put, text_of,
    turned_over,
)


def form(*ahead):
    """The least board after the calls, as a str."""
    return text_of(ask(*ahead, FORM)[-1])


def square(column, row):
    return 8 * row + column


# Where a square comes to, by each of the eight turnings.
TURNINGS = (
    lambda column, row: (column, row),
    lambda column, row: (7 - column, row),
    lambda column, row: (column, 7 - row),
    lambda column, row: (7 - column, 7 - row),
    lambda column, row: (row, column),
    lambda column, row: (7 - row, column),
    lambda column, row: (row, 7 - column),
    lambda column, row: (7 - row, 7 - column),
)


def moved(text, turning):
    """The board with every stone where the turning brings it."""
    found = [""] * 64
    for column in range(8):
        for row in range(8):
            found[square(*turning(column, row))] = text[square(column, row)]
    return "".join(found)


class Form(unittest.TestCase):
    def test_zero_and_the_64_bytes(self):
        self.assertEqual(ask(BEGIN, put(1, "X" * 64), FORM)[2], [0] + [88] * 64)
        self.assertEqual(ask(BEGIN, put(1, "O" * 64), FORM)[2], [0] + [79] * 64)
        self.assertEqual(ask(BEGIN, put(1, "-" * 64), FORM)[2], [0] + [45] * 64)

    def test_one_stone_comes_to_the_end(self):
        for place in (0, 7, 56, 63):
            for sign in "XO":
                self.assertEqual(form(BEGIN, put(1, board({place: sign}))), board({63: sign}))
        for place in (1, 6, 8, 15, 48, 55, 57, 62):
            self.assertEqual(form(BEGIN, put(1, board({place: "X"}))), board({62: "X"}))

    def test_every_stone_alone(self):
        for place in range(64):
            same = {moved(board({place: "O"}), turning) for turning in TURNINGS}
            self.assertEqual(form(BEGIN, put(2, board({place: "O"}))), board({max(t.index("O") for t in same): "O"}))

    def test_the_least_by_each_of_the_eight_turnings(self):
        least = board({54: "X", 53: "O", 61: "X", 47: "O", 63: "X"})
        self.assertEqual(form(BEGIN, put(1, least)), min(turned_over(least), key=self.order))
        least = form(BEGIN, put(1, least))
        boards = [moved(least, turning) for turning in TURNINGS]
        self.assertEqual(len(set(boards)), 8)
        for text in boards:
            self.assertEqual(form(BEGIN, put(1, text)), least)
            self.assertEqual(form(BEGIN, put(2, text)), least)

    def order(self, text):
        return ["-XO".index(sign) for sign in text]

    def test_the_same_least_board_for_all_eight(self):
        choice = random.Random(61)
        for number in range(40):
            text = "".join(choice.choices("XO-", (3, 3, choice.randrange(0, 9)), k=64))
            least = min((moved(text, turning) for turning in TURNINGS), key=self.order)
            for turning in TURNINGS:
                self.assertEqual(form(BEGIN, put(1, moved(text, turning))), least)

    def test_boards_that_differ_in_few_squares(self):
        choice = random.Random(62)
        for number in range(80):
            stones = {place: choice.choice("XO") for place in choice.sample(range(64), choice.randrange(1, 4))}
            model = Model()
            model.board = board(stones)
            self.assertEqual(form(BEGIN, put(1, model.board)), model.form())
            full = "".join(stones.get(place, "X") for place in range(64))
            model.board = full
            self.assertEqual(form(BEGIN, put(1, full)), model.form())

    def test_a_board_that_is_the_least_itself(self):
        for text in (board({63: "X"}), board({62: "X", 63: "O"}), "-" * 32 + "X" * 32, "X" * 32 + "O" * 32):
            self.assertEqual(form(BEGIN, put(1, text)), text)

    def test_no_other_turning_or_change(self):
        # Neither who holds a stone is changed, nor is a row moved by itself.
        self.assertEqual(form(BEGIN, put(1, "O" * 32 + "X" * 32)), "X" * 32 + "O" * 32)
        self.assertEqual(form(BEGIN, put(1, "O" * 64)), "O" * 64)
        self.assertEqual(form(BEGIN, put(1, board({27: "O"}))), board({36: "O"}))
        self.assertEqual(form(BEGIN, put(1, "XXXXXXXO" * 8)), "X" * 56 + "O" * 8)

    def test_boards_that_are_the_same_turned_over(self):
        ring = board({place: "X" for place in (0, 7, 56, 63)})
        self.assertEqual(form(BEGIN, put(1, ring)), ring)
        self.assertEqual(form(BEGIN, put(1, "XO" * 32)), "X" * 8 + "O" * 8 + ("X" * 8 + "O" * 8) * 3)
        chequered = ("XOXOXOXO" + "OXOXOXOX") * 4
        self.assertEqual(form(BEGIN, put(1, chequered)), chequered)
        self.assertEqual(form(BEGIN, put(1, chequered[::-1])), chequered)
        self.assertEqual(form(BEGIN, put(1, chequered[8:] + chequered[:8])), chequered)
        diagonal = board({place: "O" for place in range(0, 64, 9)})
        other_diagonal = board({place: "O" for place in range(7, 63, 7)})
        self.assertEqual(form(BEGIN, put(1, diagonal)), other_diagonal)
        self.assertEqual(form(BEGIN, put(1, other_diagonal)), other_diagonal)

    def test_empty_below_the_first_s_below_the_second_s(self):
        # As bytes - is below O, and O below X.
        self.assertEqual(form(BEGIN, put(1, "X" + "O" * 62 + "X")), "X" + "O" * 62 + "X")
        self.assertEqual(form(BEGIN, put(1, "O" * 63 + "X")), "X" + "O" * 63)
        self.assertEqual(form(BEGIN, put(1, "X" * 63 + "O")), "X" * 63 + "O")
        self.assertEqual(form(BEGIN, put(1, "O" + "X" * 63)), "X" * 63 + "O")
        self.assertEqual(form(BEGIN, put(1, "X" * 63 + "-")), "-" + "X" * 63)
        self.assertEqual(form(BEGIN, put(1, "O" * 63 + "-")), "-" + "O" * 63)
        self.assertEqual(form(BEGIN, put(1, board({0: "X", 7: "O"}))), board({56: "X", 63: "O"}))

    def test_squares_from_0_on(self):
        # The lower squares tell first, whatever stands behind.
        self.assertEqual(form(BEGIN, put(1, "-" + "O" * 62 + "X")), "-" + "O" * 62 + "X")
        self.assertEqual(form(BEGIN, put(1, "O" + "-" * 62 + "X")), "-" * 7 + "X" + "-" * 48 + "O" + "-" * 7)

    def test_at_the_beginning_and_after_moves(self):
        self.assertEqual(form(BEGIN), BEGINNING.translate({ord("X"): "O", ord("O"): "X"}))
        first_moves = {form(BEGIN, play(place)) for place in (19, 26, 37, 44)}
        self.assertEqual(len(first_moves), 1)
        model = Model()
        for length, place in enumerate(LONGEST_GAME):
            self.assertEqual(form(BEGIN, *plays(LONGEST_GAME[:length])), model.form())
            model.play(place)

    def test_when_the_game_is_over(self):
        model = Model()
        for place in SHORT_GAME:
            model.play(place)
        self.assertEqual(form(BEGIN, *plays(SHORT_GAME)), model.form())

    def test_whoever_moves(self):
        self.assertEqual(form(BEGIN, put(2, BEGINNING)), form(BEGIN, put(1, BEGINNING)))

    def test_the_board_itself_is_not_changed(self):
        for ahead in ([BEGIN, play(19), play(18)], [BEGIN, *plays(SHORT_GAME)], [BEGIN, put(1, "O" + "X" * 62 + "-")]):
            self.assertEqual(after(*ahead, FORM, FORM), after(*ahead))
            self.assertEqual(after(*ahead, FORM, BACK), after(*ahead, BACK))
            self.assertEqual(ask(*ahead, FORM, BACK)[-1], ask(*ahead, BACK)[-1])
            self.assertEqual(ask(*ahead, FORM, FORM)[-1], ask(*ahead, FORM)[-1])


if __name__ == "__main__":
    unittest.main()
