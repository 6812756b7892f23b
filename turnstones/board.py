"""Boards as texts: 64 bytes from square 0 on."""

BYTE_OF_FIRST = 88
BYTE_OF_SECOND = 79
BYTE_OF_EMPTY = 45


def is_board(text):
    """Whether each byte is X, O or -."""
    for byte in text:
        if byte not in (BYTE_OF_FIRST, BYTE_OF_SECOND, BYTE_OF_EMPTY):
            return False
    return True


def squares_with(text, wanted):
    """The set of the squares at which the wanted byte stands."""
    found = 0
    for square, byte in enumerate(text):
        if byte == wanted:
            found = found | (1 << square)
    return found


def byte_at(position, square):
    """The byte that tells who holds the square."""
    stone = 1 << square
    if position.first & stone != 0:
        return BYTE_OF_FIRST
    if position.second & stone != 0:
        return BYTE_OF_SECOND
    return BYTE_OF_EMPTY


def board_text(position):
    """The board's 64 bytes."""
    return [byte_at(position, square) for square in range(64)]
