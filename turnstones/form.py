"""The least of the eight boards that come of turning a board over."""

# What changes in a square's number when the columns (7), the rows (56) or both go the other way round.
TURNINGS = (0, 7, 56, 63)


def swapped(square):
    """The square with column and row changed."""
    return square % 8 * 8 + square // 8


def eight_boards(board):
    """The board, given square by square, in all eight ways to turn it over."""
    found = []
    for turning in TURNINGS:
        found.append([board[square ^ turning] for square in range(64)])
        found.append([board[swapped(square) ^ turning] for square in range(64)])
    return found


def least_board(board):
    """The least of the eight, by squares from 0 on."""
    return min(eight_boards(board))
