"""Promise 8: ot_value and ot_best."""

import random
import unittest

from tests.helper import (
    BACK, BEGIN, BEGINNING, BEST, LONGEST_GAME, MOVER, SEEN, SHORT_GAME, VALUE, Model,
    after, ask, board, bytes_of, play, plays, put,
)
from turnstones.outcome import comes_to, result
from turnstones.position import positions_behind
from turnstones.session import Session


def both(*ahead):
    """What ot_value and ot_best answer after the calls."""
    (value,), (best,) = ask(*ahead, VALUE, BEST)[-2:]
    return value, best


def any_board(choice, empty, weights):
    """A board with so many empty squares."""
    places = choice.sample(range(64), empty)
    return "".join("-" if square in places else choice.choices("XO", weights)[0] for square in range(64))


def halves(first, second):
    """A board with so many of the first's above and so many of the second's below: nobody can move."""
    return "X" * first + "-" * (64 - first - second) + "O" * second


def put_in_model(mover, text):
    model = Model()
    model.put(mover, text)
    return model


class Over(unittest.TestCase):
    def test_full_boards(self):
        for mover in (1, 2):
            self.assertEqual(both(BEGIN, put(mover, "X" * 64)), (64, -1))
            self.assertEqual(both(BEGIN, put(mover, "O" * 64)), (-64, -1))
            self.assertEqual(both(BEGIN, put(mover, halves(33, 31))), (2, -1))
            self.assertEqual(both(BEGIN, put(mover, halves(31, 33))), (-2, -1))
            self.assertEqual(both(BEGIN, put(mover, halves(32, 32))), (0, -1))
            self.assertEqual(both(BEGIN, put(mover, halves(63, 1))), (62, -1))
            self.assertEqual(both(BEGIN, put(mover, halves(1, 63))), (-62, -1))

    def test_more_stones_with_empty_squares_left(self):
        for first, second, value in ((54, 0, 64), (63, 0, 64), (55, 1, 62), (30, 24, 16), (28, 26, 12), (32, 31, 2)):
            self.over(halves(first, second), value)

    def test_fewer_stones_with_empty_squares_left(self):
        for first, second, value in ((0, 54, -64), (0, 63, -64), (1, 55, -62), (24, 30, -16), (26, 28, -12), (31, 32, -2)):
            self.over(halves(first, second), value)

    def test_the_same_number_with_empty_squares_left(self):
        for number in range(27, 32):
            self.over(halves(number, number), 0)

    def over(self, text, value):
        """Nobody can move, and the result is this."""
        self.assertLessEqual(text.count("-"), 10)
        for mover in (1, 2):
            self.assertEqual(after(BEGIN, put(mover, text))[1], 0, text)
            self.assertEqual(both(BEGIN, put(mover, text)), (value, -1), text)

    def test_at_the_end_of_a_game(self):
        ahead = [BEGIN, *plays(LONGEST_GAME)]
        text = after(*ahead)[0]
        first, second = text.count("X"), text.count("O")
        self.assertEqual(first + second, 64)
        self.assertEqual(both(*ahead), (first - second, -1))

    def test_too_many_empty_is_told_first(self):
        self.assertEqual(both(BEGIN, put(1, "X" * 53 + "-" * 11)), (-100, -100))
        self.assertEqual(both(BEGIN, put(1, "-" * 64)), (-100, -100))
        self.assertEqual(both(BEGIN, put(1, board({0: "X", 63: "O"}))), (-100, -100))
        self.assertEqual(both(BEGIN, *plays(SHORT_GAME)), (-100, -100))


class HowManyAreEmpty(unittest.TestCase):
    def test_the_beginning(self):
        self.assertEqual(both(BEGIN), (-100, -100))
        self.assertEqual(both(BEGIN, put(2, BEGINNING)), (-100, -100))

    def test_11_and_10_in_a_game(self):
        for length in range(0, 50):
            self.assertEqual(both(BEGIN, *plays(LONGEST_GAME[:length])), (-100, -100), length)
        for length in range(50, 61):
            value, best = both(BEGIN, *plays(LONGEST_GAME[:length]))
            self.assertIn(value, range(-64, 65), length)
            self.assertEqual(best == -1, length == 60, length)

    def test_11_and_10_on_a_board(self):
        text = "XOOOOOO-" + "X" * 46 + "-" * 9 + "X"
        self.assertEqual(text.count("-"), 10)
        value, best = both(BEGIN, put(1, text))
        self.assertEqual(best, 7)
        self.assertEqual(value, 64)
        self.assertEqual(both(BEGIN, put(1, text[:-1] + "-")), (-100, -100))

    def test_asked_again_once_there_are_few(self):
        calls = [BEGIN, *plays(LONGEST_GAME[:49]), VALUE, BEST, play(LONGEST_GAME[49]), VALUE, BEST, BACK, VALUE, BEST]
        found = ask(*calls)[50:]
        self.assertEqual((found[0], found[1]), ([-100], [-100]))
        self.assertNotIn([-100], found[2:5])
        self.assertEqual((found[6], found[7]), ([-100], [-100]))


class LastMoves(unittest.TestCase):
    def test_one_move_left(self):
        self.assertEqual(both(BEGIN, put(1, "-" + "O" * 62 + "X")), (-48, 0))
        self.assertEqual(both(BEGIN, put(2, "-" + "X" * 62 + "O")), (48, 0))

    def test_the_first_s_greatest_and_the_second_s_least(self):
        # The first can move on 0, which comes to -2, and on 26, which comes to 6.
        text = "-OXOOXOXXOXOOXOOOXOOXXXXOO-OOXOOOOOXOOOXOXXXXXXXOOXOXXOXXOOXXOOX"
        self.assertEqual(after(BEGIN, put(1, text))[1:], (1, [0, 26]))
        self.assertEqual(both(BEGIN, put(1, text)), (6, 26))
        self.assertEqual(both(BEGIN, put(1, text), play(0))[0], -2)
        self.assertEqual(both(BEGIN, put(1, text), play(26))[0], 6)
        text = text.translate({ord("X"): "O", ord("O"): "X"})
        self.assertEqual(after(BEGIN, put(2, text))[1:], (2, [0, 26]))
        self.assertEqual(both(BEGIN, put(2, text)), (-6, 26))
        self.assertEqual(both(BEGIN, put(2, text), play(0))[0], 2)
        self.assertEqual(both(BEGIN, put(2, text), play(26))[0], -6)

    def test_of_two_moves_the_better_though_it_turns_fewer(self):
        found = 0
        choice = random.Random(41)
        for number in range(400):
            model = put_in_model(choice.choice((1, 2)), any_board(choice, 4, (1, 1)))
            if model.mover == 0:
                continue
            turned = {square: len(model.turned(model.mover, square)) for square in model.moves(model.mover)}
            value, best = both(BEGIN, put(model.mover, model.board))
            self.assertEqual((value, best), (model.value(), model.best()), model.board)
            found += turned[best] < max(turned.values())
        self.assertGreater(found, 50)

    def test_as_the_model_tells(self):
        choice = random.Random(42)
        movers = [0, 0, 0]
        again = same = not_the_lowest = 0
        for number in range(150):
            weights = choice.choice(((1, 1), (1, 4), (4, 1)))
            model = put_in_model(choice.choice((1, 2)), any_board(choice, choice.randrange(1, 6), weights))
            value, best = both(BEGIN, put(model.mover or 1, model.board))
            self.assertEqual((value, best), (model.value(), model.best()), model.board)
            movers[model.mover] += 1
            behind = model.behind()
            again += any(after_it.mover == model.mover for square, after_it in behind)
            same += [after_it.comes_to() for square, after_it in behind].count(value) > 1
            not_the_lowest += model.mover != 0 and best != behind[0][0]
        for seen_so_often in (movers[1], movers[2], again, same, not_the_lowest):
            self.assertGreater(seen_so_often, 8)

    def test_the_same_one_moves_again(self):
        # The second can't move at all; on 7 and on 63 the first turns a row each, one after the other.
        text = "XOOOOOO-" + "X" * 48 + "XXXXXXO-"
        calls = [BEGIN, put(1, text)]
        self.assertEqual(both(*calls), (64, 7))
        self.assertEqual(ask(*calls, play(7), MOVER)[-1], [1])
        self.assertEqual(both(*calls, play(7)), (64, 63))
        text = text.translate({ord("X"): "O", ord("O"): "X"})
        calls = [BEGIN, put(2, text)]
        self.assertEqual(both(*calls), (-64, 7))
        self.assertEqual(ask(*calls, play(63), MOVER)[-1], [2])
        self.assertEqual(both(*calls, play(63)), (-64, 7))

    def test_the_lowest_of_several(self):
        # Four rows that end in empty squares: whichever is first, all come to the same.
        text = "XOOOOOO-" * 4 + "X" * 32
        for mover in (1, 2):
            model = put_in_model(mover, text)
            self.assertEqual(both(BEGIN, put(mover, text)), (model.value(), model.best()))
        text = "XXXXXXO-" + "X" * 8 + "XXXXXXO-" + "X" * 8 + "XXXXXXO-" + "X" * 24
        self.assertEqual(both(BEGIN, put(1, text)), (64, 7))
        self.assertEqual(both(BEGIN, put(1, text), play(7)), (64, 23))
        self.assertEqual(both(BEGIN, put(1, text), play(23)), (64, 7))
        self.assertEqual(both(BEGIN, put(1, text), play(55)), (64, 7))


class UpToTen(unittest.TestCase):
    def one_further(self, *ahead):
        """The answers agree with those behind each of the moves."""
        value, best = both(*ahead)
        text, mover, moves = after(*ahead)
        values = [ask(*ahead, play(square), VALUE)[-1][0] for square in moves]
        self.assertEqual(value, max(values) if mover == 1 else min(values), text)
        self.assertEqual(best, moves[values.index(value)], text)

    def test_through_the_end_of_a_game(self):
        for length in range(50, 60):
            self.one_further(BEGIN, *plays(LONGEST_GAME[:length]))

    def test_boards_with_7_to_10_empty(self):
        choice = random.Random(43)
        for empty in (7, 8, 9, 10):
            model = put_in_model(choice.choice((1, 2)), any_board(choice, empty, (1, 1)))
            self.assertNotEqual(model.mover, 0)
            self.one_further(BEGIN, put(model.mover, model.board))

    def plain(self, position, known):
        """What the position comes to when no move is left out."""
        key = (position.first, position.second, position.mover)
        if key not in known:
            values = [self.plain(after_it, known) for after_it in positions_behind(position)]
            if position.mover == 0:
                known[key] = result(position)
            else:
                known[key] = max(values) if position.mover == 1 else min(values)
        return known[key]

    def test_moves_that_are_left_out_change_nothing(self):
        choice = random.Random(44)
        for empty in (6, 7, 8, 9):
            for weights in ((1, 1), (1, 5), (5, 1)):
                session = Session()
                session.put(choice.choice((1, 2)), bytes_of(any_board(choice, empty, weights)))
                self.assertEqual(comes_to(session.position), self.plain(session.position, {}))

    def test_10_empty_at_the_end_of_a_game(self):
        session = Session()
        for square in LONGEST_GAME[:50]:
            session.play(square)
        self.assertEqual(comes_to(session.position), self.plain(session.position, {}))


class NothingChanged(unittest.TestCase):
    def test_by_asking(self):
        for length in (0, 3, 52, 57, 60):
            ahead = [BEGIN, *plays(LONGEST_GAME[:length])]
            asked = [*ahead, VALUE, BEST, BEST, VALUE]
            self.assertEqual(after(*asked), after(*ahead))
            plain = ask(*ahead, *[BACK, *SEEN] * (length + 1))
            self.assertEqual(ask(*asked, *[BACK, *SEEN] * (length + 1))[length + 5:], plain[length + 1:])

    def test_asked_twice(self):
        found = ask(BEGIN, *plays(LONGEST_GAME[:52]), VALUE, BEST, VALUE, BEST)[53:]
        self.assertEqual(found[:2], found[2:])

    def test_a_game_goes_on_by_the_best_moves(self):
        calls = [BEGIN, *plays(LONGEST_GAME[:52])]
        value, best = both(*calls)
        while best != -1:
            calls.append(play(best))
            self.assertEqual(both(*calls)[0], value)
            best = both(*calls)[1]
        self.assertEqual(after(*calls)[1], 0)


if __name__ == "__main__":
    unittest.main()
