"""Promise 5: ot_play."""

import itertools
import random
import unittest

from tests.helper import (
    BACK, BEGIN, BEGINNING, GREATEST, LEAST, LONGEST_GAME, SEEN, SHORT_GAME, Model,
    after, ask, board, play, plays, put, seen,
)

DIRECTIONS = [(across, along) for across in (-1, 0, 1) for along in (-1, 0, 1) if (across, along) != (0, 0)]
NO_SQUARES = (-1, -2, -37, -64, 64, 65, 83, 100, 128, 2 ** 30, -2 ** 30, GREATEST - 1, GREATEST, LEAST, LEAST + 1)
SIGNS = ((1, "X", "O"), (2, "O", "X"))


def away(square, direction, steps):
    """The square so many steps away, or None off the board."""
    column = square % 8 + direction[0] * steps
    rank = square // 8 + direction[1] * steps
    if 0 <= column < 8 and 0 <= rank < 8:
        return rank * 8 + column
    return None


class Turned(unittest.TestCase):
    def turns(self, mover, stones, square, turned):
        """The move turns just those squares, and tells how many."""
        own = "X" if mover == 1 else "O"
        found = ask(BEGIN, put(mover, board(stones)), play(square), *SEEN)
        self.assertEqual(found[2], [len(turned)])
        changed = dict(stones)
        for place in [square, *turned]:
            changed[place] = own
        self.assertEqual(seen(found[3:])[0], board(changed))

    def test_the_beginning(self):
        for square, turned in ((19, 27), (26, 27), (37, 36), (44, 36)):
            text = BEGINNING[:turned] + "X" + BEGINNING[turned + 1:]
            text = text[:square] + "X" + text[square + 1:]
            self.assertEqual(ask(BEGIN, play(square)), [[0], [1]])
            self.assertEqual(after(BEGIN, play(square))[:2], (text, 2))

    def test_one_direction_from_every_square_at_every_length(self):
        for mover, own, other in SIGNS:
            for square, direction, steps in itertools.product(range(64), DIRECTIONS, range(2, 8)):
                end = away(square, direction, steps)
                if end is not None:
                    turned = [away(square, direction, step) for step in range(1, steps)]
                    stones = dict.fromkeys(turned, other)
                    stones[end] = own
                    self.turns(mover, stones, square, turned)

    def test_every_choice_of_directions(self):
        for mover, own, other in SIGNS:
            for chosen in range(1, 256):
                turned = []
                stones = {}
                for number, direction in enumerate(DIRECTIONS):
                    stones[away(27, direction, 1)] = other
                    if chosen >> number & 1:
                        stones[away(27, direction, 2)] = own
                        turned.append(away(27, direction, 1))
                self.turns(mover, stones, 27, turned)

    def test_all_eight_directions_as_long_as_can_be(self):
        turned = []
        stones = {}
        for direction in DIRECTIONS:
            steps = 1
            while away(27, direction, steps + 1) is not None:
                turned.append(away(27, direction, steps))
                stones[turned[-1]] = "O"
                steps += 1
            stones[away(27, direction, steps)] = "X"
        self.assertEqual(len(turned), 19)
        self.turns(1, stones, 27, turned)

    def test_no_further_than_the_nearest_own(self):
        self.turns(1, {1: "O", 2: "X", 3: "O", 4: "X"}, 0, [1])
        self.turns(2, {1: "X", 2: "X", 3: "O", 4: "X", 5: "O"}, 0, [1, 2])

    def test_not_behind_an_own_stone_beside_it(self):
        self.turns(1, {1: "X", 2: "O", 3: "X", 8: "O", 16: "X"}, 0, [8])

    def test_a_row_with_no_end_stays_beside_one_that_has(self):
        to_the_edge = dict.fromkeys(range(1, 8), "O")
        self.turns(1, {**to_the_edge, 8: "O", 16: "X"}, 0, [8])
        to_an_empty_one = dict.fromkeys(range(1, 5), "O")
        self.turns(1, {**to_an_empty_one, 6: "X", 8: "O", 16: "X"}, 0, [8])

    def test_turned_stones_turn_no_others(self):
        # 9 is turned and then stands in a row with 11, with 10 between: that stays.
        self.turns(1, {9: "O", 18: "X", 10: "O", 11: "X"}, 0, [9])


class NothingTurned(unittest.TestCase):
    def with_a_move(self, mover, stones, square):
        """The board with two more stones, so that mover can move, but not on the square."""
        own, other = ("X", "O") if mover == 1 else ("O", "X")
        for place in [56, 61, 0, 5, 24, 29, 32, 37, 8, 13, 48, 53]:
            if not {place, place + 1, place + 2} & {square, *stones}:
                model = Model()
                model.put(mover, board({**stones, place: own, place + 1: other}))
                if model.mover == mover and not model.turned(mover, square):
                    return model.board
        raise AssertionError("no room for the two stones")

    def refused(self, mover, stones, square):
        """The move is refused and all is as it was."""
        ahead = [BEGIN, put(mover, self.with_a_move(mover, stones, square))]
        self.assertEqual(after(*ahead)[1], mover)
        self.assertEqual(ask(*ahead, play(square))[2], [-1])
        self.assertEqual(after(*ahead, play(square)), after(*ahead))

    def test_rows_to_the_edge(self):
        for mover, own, other in SIGNS:
            for square, direction in itertools.product((0, 7, 18, 27, 36, 45, 56, 63), DIRECTIONS):
                stones = {}
                steps = 1
                while away(square, direction, steps) is not None:
                    stones[away(square, direction, steps)] = other
                    steps += 1
                self.refused(mover, stones, square)

    def test_rows_to_an_empty_square(self):
        for mover, own, other in SIGNS:
            for square, direction in itertools.product(range(64), DIRECTIONS):
                if away(square, direction, 3) is not None:
                    stones = {away(square, direction, 1): other, away(square, direction, 3): own}
                    self.refused(mover, stones, square)

    def test_an_own_stone_beside_it(self):
        for mover, own, other in SIGNS:
            for direction in DIRECTIONS:
                stones = {away(27, direction, 1): own, away(27, direction, 2): other, away(27, direction, 3): own}
                self.refused(mover, stones, 27)

    def test_no_row_goes_on_round_an_edge(self):
        tried = 0
        for mover, own, other in SIGNS:
            for square, direction, steps in itertools.product(range(64), DIRECTIONS, range(2, 6)):
                step = direction[0] + 8 * direction[1]
                places = [square + step * count for count in range(1, steps + 1)]
                if away(square, direction, steps) is None and 0 <= min(places) and max(places) < 64:
                    stones = dict.fromkeys(places[:-1], other)
                    stones[places[-1]] = own
                    self.refused(mover, stones, square)
                    tried += 1
        self.assertGreater(tried, 500)

    def test_no_row_goes_on_from_the_last_square_to_the_first(self):
        self.refused(1, {63: "O", 0: "X"}, 62)
        self.refused(1, {0: "O", 63: "X"}, 1)
        self.refused(1, {59: "O", 3: "X"}, 51)
        self.refused(1, {3: "O", 59: "X"}, 11)
        self.refused(1, {0: "O", 63: "X"}, 9)
        self.refused(1, {63: "O", 0: "X"}, 54)


class Refused(unittest.TestCase):
    def refused(self, ahead, squares):
        """Each square is refused and all is as it was, the positions before included."""
        found = ask(*ahead, *plays(squares))
        self.assertEqual(found[len(ahead):], [[-1]] * len(squares))
        self.assertEqual(after(*ahead, *plays(squares)), after(*ahead))
        backs = [BACK] * 12
        self.assertEqual(ask(*ahead, *plays(squares), *backs)[-12:], ask(*ahead, *backs)[-12:])
        self.assertEqual(after(*ahead, *plays(squares), BACK), after(*ahead, BACK))

    def test_all_that_is_no_move_at_the_beginning(self):
        self.refused([BEGIN], [square for square in range(64) if square not in (19, 26, 37, 44)])

    def test_all_that_is_no_move_in_the_middle_of_a_game(self):
        ahead = [BEGIN, *plays(LONGEST_GAME[:25])]
        moves = after(*ahead)[2]
        self.refused(ahead, [square for square in range(64) if square not in moves])

    def test_held_squares_from_which_a_row_would_be_turned(self):
        text = board({0: "X", 1: "O", 2: "X", 8: "O", 9: "O", 10: "X", 40: "X", 41: "O"})
        self.refused([BEGIN, put(1, text)], [0, 2, 8, 1, 9, 10])
        text = board({0: "O", 1: "X", 2: "O", 8: "X", 9: "X", 10: "O", 40: "O", 41: "X"})
        self.refused([BEGIN, put(2, text)], [0, 2, 8, 1, 9, 10])

    def test_numbers_of_no_square(self):
        self.refused([BEGIN], NO_SQUARES)
        self.refused([BEGIN, play(44), play(29)], NO_SQUARES)

    def test_a_number_64_off_a_move(self):
        self.refused([BEGIN], [move + off for move in (19, 26, 37, 44) for off in (-128, -64, 64, 128)])

    def test_every_square_once_the_game_is_over(self):
        for game in (SHORT_GAME, LONGEST_GAME):
            self.refused([BEGIN, *plays(game)], [*range(64), *NO_SQUARES])
        for text in ("-" * 64, "X" * 64, board({0: "X", 63: "O"})):
            self.refused([BEGIN, put(1, text)], [*range(64), *NO_SQUARES])

    def test_the_other_one_s_moves(self):
        self.refused([BEGIN], [20, 29, 34, 43])
        self.refused([BEGIN, put(2, BEGINNING)], [19, 26, 37, 44])


class WhoMovesNext(unittest.TestCase):
    def test_the_other_can_t_move_and_the_same_one_moves_again(self):
        for mover, own, other in SIGNS:
            calls = [BEGIN, put(mover, board({0: own, 1: other, 56: own, 57: other})), play(2)]
            self.assertEqual(ask(*calls)[-1], [1])
            text = board({0: own, 1: own, 2: own, 56: own, 57: other})
            self.assertEqual(after(*calls), (text, mover, [58]))

    def test_it_ends_when_neither_can(self):
        for mover, own, other in SIGNS:
            calls = [BEGIN, put(mover, board({0: own, 1: other, 56: own, 57: other})), play(2), play(58)]
            self.assertEqual(ask(*calls)[-1], [1])
            text = board({0: own, 1: own, 2: own, 56: own, 57: own, 58: own})
            self.assertEqual(after(*calls), (text, 0, []))

    def test_it_ends_with_both_s_stones_on_the_board(self):
        calls = [BEGIN, put(1, board({0: "X", 1: "O", 63: "O"})), play(2)]
        self.assertEqual(after(*calls), (board({0: "X", 1: "X", 2: "X", 63: "O"}), 0, []))

    def test_it_ends_on_a_full_board(self):
        calls = [BEGIN, put(1, "-" + "O" * 62 + "X"), play(0)]
        self.assertEqual(ask(*calls)[-1], [6])
        self.assertEqual(after(*calls)[1:], (0, []))

    def test_the_short_game_ends_with_its_last_move(self):
        self.assertEqual(ask(BEGIN, *plays(SHORT_GAME))[1:], [[1], [1], [1], [1], [1], [3], [1], [3], [1], [4]])
        self.assertEqual(after(BEGIN, *plays(SHORT_GAME[:-1]))[1], 2)
        self.assertEqual(after(BEGIN, *plays(SHORT_GAME))[1:], (0, []))

    def test_passed_over_in_a_whole_game(self):
        for count, who in ((29, 2), (30, 2), (57, 1), (58, 1), (59, 1), (60, 0)):
            self.assertEqual(after(BEGIN, *plays(LONGEST_GAME[:count]))[1], who)


class ManyGames(unittest.TestCase):
    def both(self, model, calls, told, limit, choice):
        """Plays on, in the calls and in the model, until the game is over or the limit is reached."""
        while model.mover != 0 and len(calls) < limit:
            square = choice.choice(model.moves(model.mover))
            if choice.randrange(5) == 0:
                square = choice.randrange(-3, 68)
            calls.append(play(square))
            told.append([model.play(square)])
            if choice.randrange(8) == 0:
                calls.append(BACK)
                told.append([model.back()])

    def check(self, model, calls, told):
        found = ask(*calls, *SEEN)
        self.assertEqual(found[:-3], told)
        self.assertEqual(seen(found[-3:]), model.seen())

    def test_from_the_beginning(self):
        choice = random.Random(20)
        for game in range(60):
            model, calls, told = Model(), [BEGIN], [[0]]
            self.both(model, calls, told, choice.randrange(5, 300), choice)
            self.check(model, calls, told)

    def test_from_any_board(self):
        choice = random.Random(21)
        for game in range(150):
            text = "".join(choice.choices("XO-", (3, 3, choice.randrange(1, 12)), k=64))
            mover = choice.choice((1, 2))
            model = Model()
            calls, told = [BEGIN, put(mover, text)], [[0], [model.put(mover, text)]]
            self.both(model, calls, told, choice.randrange(3, 120), choice)
            self.check(model, calls, told)

    def test_every_square_on_any_board(self):
        choice = random.Random(22)
        for game in range(40):
            text = "".join(choice.choices("XO-", (3, 3, choice.randrange(1, 12)), k=64))
            mover = choice.choice((1, 2))
            for square in range(64):
                model = Model()
                told = [[0], [model.put(mover, text)], [model.play(square)]]
                self.check(model, [BEGIN, put(mover, text), play(square)], told)


if __name__ == "__main__":
    unittest.main()
