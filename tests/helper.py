"""What the tests share: the calls in their written form, and a second, slow telling of the rules."""

import re

from turnstones.game import answers

GREATEST = 2147483647
LEAST = -2147483648

BEGIN = [1, 0, 0]
TEXT = [3, 0, 0]
MOVER = [4, 0, 0]
MOVES = [5, 0, 0]
BACK = [7, 0, 0]
VALUE = [9, 0, 0]
BEST = [10, 0, 0]
FORM = [12, 0, 0]
# All that can be seen of a position.
SEEN = (TEXT, MOVER, MOVES)

BEGINNING = (
    "--------"
    "--------"
    "--------"
    "---OX---"
    "---XO---"
    "--------"
    "--------"
    "--------"
)

# 60 moves is the longest game there is. With four stones or more no more squares are empty. A move's square
# is odd or even, by column and by row, as a stone in its row is: three stones never reach a fourth sort of
# square, so at the most 45 moves follow. Both players are passed over in this game.
LONGEST_GAME = (
    44, 45, 46, 43, 42, 54, 29, 38, 26, 20, 12, 50, 30, 11, 62, 63, 51, 22, 14, 34,
    49, 47, 10, 15, 18, 31, 41, 6, 13, 61, 48, 25, 4, 40, 59, 58, 37, 19, 1, 21,
    33, 3, 57, 32, 2, 23, 16, 17, 5, 39, 24, 8, 60, 56, 53, 52, 9, 7, 55, 0,
)
# The second takes the first's last stones with the tenth move.
SHORT_GAME = (44, 29, 20, 45, 30, 31, 37, 43, 21, 13)


def put(mover, text):
    """The call ot_put; text is a str or a list of numbers."""
    numbers = bytes_of(text)
    return [2, 1, mover, 1, len(numbers)] + numbers


def play(square):
    """The call ot_play."""
    return [6, 1, square, 0]


def plays(squares):
    """The calls ot_play for the squares."""
    return [play(square) for square in squares]


def games(depth):
    """The call ot_games."""
    return [8, 1, depth, 0]


def count(which):
    """The call ot_count."""
    return [13, 1, which, 0]


def record(text, n=None):
    """The call ot_record; text is a str or a list of numbers, and n is its length if nothing else is told."""
    numbers = bytes_of(text)
    return [11, 1, len(numbers) if n is None else n, 1, len(numbers)] + numbers


def told(squares):
    """The squares as a record tells them."""
    return "".join("abcdefgh"[square % 8] + str(square // 8 + 1) for square in squares)


def bytes_of(text):
    """The numbers of a text, which is a str or a list of numbers."""
    return [ord(sign) for sign in text] if isinstance(text, str) else list(text)


def text_of(answer):
    """The board that ot_text and ot_form answer, as a str."""
    if len(answer) != 65 or answer[0] != 0:
        raise AssertionError(f"not in the form that is asked: {answer}")
    return "".join(chr(byte) for byte in answer[1:])


def joined(calls):
    """The calls one behind another in one list."""
    return [number for call in calls for number in call]


def apart(given):
    """The answers, one list each."""
    found = []
    place = 0
    while place < len(given):
        end = place + 1 + given[place]
        found.append(given[place + 1:end])
        place = end
    if place != len(given):
        raise AssertionError("the last answer is cut off")
    return found


def ask(*calls):
    """The answers to the calls."""
    found = apart(answers(joined(calls)))
    if len(found) != len(calls):
        raise AssertionError(f"{len(calls)} calls, {len(found)} answers")
    return found


def after(*calls):
    """What is seen after the calls: the board as a str, who moves, the squares of the moves."""
    return seen(ask(*calls, *SEEN)[-3:])


def seen(three):
    """The answers to SEEN, in a form that's easy to read."""
    text, mover, moves = three
    if len(mover) != 1 or len(moves) != 2:
        raise AssertionError(f"not in the form that is asked: {three}")
    squares = squares_of(moves[1])
    if len(squares) != moves[0]:
        raise AssertionError(f"{moves[0]} moves told, {len(squares)} in the set")
    return text_of(text), mover[0], squares


def squares_of(number):
    """The squares in a set."""
    if not 0 <= number < 2 ** 64:
        raise AssertionError(f"no set of squares: {number}")
    return [square for square in range(64) if number // 2 ** square % 2 == 1]


def board(stones):
    """The board with these stones alone: a dict of squares to X or O."""
    return "".join(stones.get(square, "-") for square in range(64))


class Model:
    """The game told again, stone by stone on columns and rows."""

    def __init__(self):
        self.board = BEGINNING
        self.mover = 1
        self.before = []

    def row(self, player, square, across, along):
        """The squares that are turned in one direction."""
        own, other = ("X", "O") if player == 1 else ("O", "X")
        column, rank = square % 8 + across, square // 8 + along
        found = []
        while 0 <= column < 8 and 0 <= rank < 8:
            sign = self.board[rank * 8 + column]
            if sign == own:
                return found
            if sign != other:
                return []
            found.append(rank * 8 + column)
            column, rank = column + across, rank + along
        return []

    def turned(self, player, square):
        """The squares that are turned; none if it's no move."""
        if player == 0 or not 0 <= square < 64 or self.board[square] != "-":
            return []
        found = []
        for across in (-1, 0, 1):
            for along in (-1, 0, 1):
                if (across, along) != (0, 0):
                    found += self.row(player, square, across, along)
        return found

    def moves(self, player):
        """The squares of the moves."""
        return [square for square in range(64) if self.turned(player, square)]

    def settle(self, player):
        """Lets player move, or the other, or nobody."""
        if self.moves(player):
            self.mover = player
        elif self.moves(3 - player):
            self.mover = 3 - player
        else:
            self.mover = 0

    def put(self, mover, text):
        """ot_put."""
        if mover not in (1, 2) or set(text) - set("XO-"):
            return -1
        self.board = text
        self.before = []
        self.settle(mover)
        return 0

    def play(self, square):
        """ot_play."""
        turned = self.turned(self.mover, square)
        if not turned:
            return -1
        self.before.append((self.board, self.mover))
        sign = "X" if self.mover == 1 else "O"
        self.board = "".join(
            sign if place == square or place in turned else held
            for place, held in enumerate(self.board)
        )
        self.settle(3 - self.mover)
        return len(turned)

    def back(self):
        """ot_back."""
        if not self.before:
            return -1
        self.board, self.mover = self.before.pop()
        return 0

    def seen(self):
        """What is seen of the position, as after() tells it."""
        return self.board, self.mover, self.moves(self.mover)

    def behind(self):
        """The squares of the moves, each with the game behind that move."""
        found = []
        for square in self.moves(self.mover):
            after_it = Model()
            after_it.board, after_it.mover = self.board, self.mover
            after_it.play(square)
            found.append((square, after_it))
        return found

    def games(self, depth):
        """ot_games: every way is gone by itself."""
        if not 0 <= depth <= 9:
            return -1
        if depth == 0 or self.mover == 0:
            return 1
        return sum(after_it.games(depth - 1) for square, after_it in self.behind())

    def comes_to(self):
        """What the position comes to: every game is played to its end."""
        if self.mover == 0:
            lead = self.count(1) - self.count(2)
            return lead + self.count(0) if lead > 0 else lead - self.count(0) if lead < 0 else 0
        values = [after_it.comes_to() for square, after_it in self.behind()]
        return max(values) if self.mover == 1 else min(values)

    def value(self):
        """ot_value."""
        return -100 if self.count(0) > 10 else self.comes_to()

    def best(self):
        """ot_best."""
        if self.count(0) > 10:
            return -100
        if self.mover == 0:
            return -1
        value = self.comes_to()
        return [square for square, after_it in self.behind() if after_it.comes_to() == value][0]

    def record(self, n, text):
        """ot_record; text is a list of numbers."""
        if not 0 <= n <= 256:
            return -1000
        board_now, mover_now, before_now = self.board, self.mover, list(self.before)
        for place in range(0, n, 2):
            two = bytes(text[place:place + 2])
            square = -1
            if re.fullmatch(b"[a-hA-H][1-8]", two):
                square = b"abcdefgh".index(two[:1].lower()) + 8 * (int(two[1:]) - 1)
            if self.play(square) == -1:
                self.board, self.mover, self.before = board_now, mover_now, before_now
                return -1 - place
        return n // 2

    def form(self):
        """The least board, as a str."""
        return min(turned_over(self.board), key=lambda text: ["-XO".index(sign) for sign in text])

    def count(self, which):
        """ot_count."""
        return self.board.count("-XO"[which]) if which in (0, 1, 2) else -1


def turned_over(text):
    """The eight boards that come of turning a board over, by whole rows of signs."""
    rows = [text[place:place + 8] for place in range(0, 64, 8)]
    found = []
    for each in (rows, ["".join(column) for column in zip(*rows)]):
        for upright in (each, each[::-1]):
            found.append("".join(upright))
            found.append("".join(row[::-1] for row in upright))
    return found
