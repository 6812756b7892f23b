"""Boards as texts: 64 bytes from square 0 on."""

from turnstones.form import least_board
from turnstones.position import FIRST, NOBODY, SECOND

BYTE_OF_EMPTY = 45
BYTE_OF_FIRST = 88
BYTE_OF_SECOND = 79


def is_board(text):
    """Whether each byte is X, O or -."""
    for byte in text:
        if byte not in (BYTE_OF_FIRST, BYTE_OF_SECOND, BYTE_OF_EMPTY):
            return False
    return True


def squares_with(text, wanted):
    """The set of the squares at which the wanted byte stands."""
    found = 0
    for square, byte in enumerate(text):
        if byte == wanted:
            found = found | (1 << square)
    return found


def holder(position, square):
    """Who holds the square: the first, the second or nobody."""
    stone = 1 << square
    if position.first & stone != 0:
        return FIRST
    if position.second & stone != 0:
        return SECOND
    return NOBODY


def holders(position):
    """Who holds each of the 64 squares."""
    return [holder(position, square) for square in range(64)]


def byte_of(one):
    """The byte that tells who holds a square."""
    if one == FIRST:
        return BYTE_OF_FIRST
    if one == SECOND:
        return BYTE_OF_SECOND
    return BYTE_OF_EMPTY


def board_text(position):
    """The board's 64 bytes."""
    return [byte_of(one) for one in holders(position)]


def form_text(position):
    """The 64 bytes of the least of the eight boards that come of turning this one over."""
    # Boards are compared by who holds a square, for the bytes stand in another order.
    return [byte_of(one) for one in least_board(holders(position))]
