"""Positions: who holds which squares, and who moves. A position isn't changed once it is made."""

from turnstones.squares import squares_to_play, stones_turned

NOBODY = 0
FIRST = 1
SECOND = 2


class Position:
    """The squares of the first, those of the second, and who moves (nobody: the game is over)."""

    def __init__(self, first, second, mover):
        self.first = first
        self.second = second
        self.mover = mover


def beginning():
    """The position at the beginning of a game."""
    e4_and_d5 = (1 << 28) | (1 << 35)
    d4_and_e5 = (1 << 27) | (1 << 36)
    return Position(e4_and_d5, d4_and_e5, FIRST)


def moves_of(first, second, player):
    """The squares on which player could put a stone."""
    if player == FIRST:
        return squares_to_play(first, second)
    return squares_to_play(second, first)


def settled(first, second, player):
    """The position with these stones: player moves, else the other who can, else nobody."""
    for one in (player, FIRST + SECOND - player):
        if moves_of(first, second, one) != 0:
            return Position(first, second, one)
    return Position(first, second, NOBODY)


def moves(position):
    """The squares on which the one who moves can put a stone."""
    if position.mover == NOBODY:
        return 0
    return moves_of(position.first, position.second, position.mover)


def turned_by(position, square):
    """The squares that a move turns: none of them if the move can't be made."""
    # The number is looked at first: a shift by any int at all would fail or never end.
    if position.mover == NOBODY or square < 0 or square > 63:
        return 0
    stone = 1 << square
    if stone & (position.first | position.second) != 0:
        return 0
    if position.mover == FIRST:
        return stones_turned(stone, position.first, position.second)
    return stones_turned(stone, position.second, position.first)


def played(position, square, turned):
    """The position behind the move on square, which turns those that are told."""
    gained = turned | (1 << square)
    if position.mover == FIRST:
        return settled(position.first | gained, position.second ^ turned, SECOND)
    return settled(position.first ^ turned, position.second | gained, FIRST)
