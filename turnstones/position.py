"""Positions: who holds which squares, and who moves. A position isn't changed once it is made."""

from turnstones.squares import listed, size, squares_to_play, stones_turned

NOBODY = 0
FIRST = 1
SECOND = 2


class Position:
    """The squares of the first, those of the second, who moves (nobody: the game is over), and where the mover can."""

    def __init__(self, first, second, mover, choices=0):
        self.first = first
        self.second = second
        self.mover = mover
        # They are found to tell who moves, and kept because all that follows asks for them.
        self.choices = choices


def beginning():
    """The position at the beginning of a game."""
    e4_and_d5 = (1 << 28) | (1 << 35)
    d4_and_e5 = (1 << 27) | (1 << 36)
    return settled(e4_and_d5, d4_and_e5, FIRST)


def held(position, which):
    """How many squares are empty (which 0), the first's (1) or the second's (2); else -1."""
    if which == NOBODY:
        return 64 - size(position.first | position.second)
    if which == FIRST:
        return size(position.first)
    if which == SECOND:
        return size(position.second)
    return -1


def moves_of(first, second, player):
    """The squares on which player could put a stone."""
    if player == FIRST:
        return squares_to_play(first, second)
    return squares_to_play(second, first)


def settled(first, second, player):
    """The position with these stones: player moves, else the other who can, else nobody."""
    for one in (player, FIRST + SECOND - player):
        choices = moves_of(first, second, one)
        if choices != 0:
            return Position(first, second, one, choices)
    return Position(first, second, NOBODY)


def turned_by(position, square):
    """The squares that a move turns: none of them if the move can't be made."""
    # The number is looked at first: a shift by any int at all would fail or never end.
    if square < 0 or square > 63:
        return 0
    stone = 1 << square
    if stone & position.choices == 0:
        return 0
    if position.mover == FIRST:
        return stones_turned(stone, position.first, position.second)
    return stones_turned(stone, position.second, position.first)


def played(position, square, turned):
    """The position behind the move on square, which turns those that are told."""
    gained = turned | (1 << square)
    if position.mover == FIRST:
        return settled(position.first | gained, position.second ^ turned, SECOND)
    return settled(position.first ^ turned, position.second | gained, FIRST)


def positions_behind(position):
    """The positions behind the moves, in the order of their squares."""
    return [played(position, square, turned_by(position, square)) for square in listed(position.choices)]
