"""What a position comes to when both play the rest of the game as well as can be."""

from turnstones.position import FIRST, NOBODY, SECOND, held, played, positions_behind, turned_by
from turnstones.squares import listed, size

MOST_EMPTY = 10


def result(position):
    """The first's result at the end: the empty squares count for the one with more stones."""
    first = held(position, FIRST)
    second = held(position, SECOND)
    if first > second:
        return 64 - 2 * second
    if first < second:
        return 2 * first - 64
    return 0


def count_choices(position):
    """How many moves there are."""
    return size(position.choices)


def within(position, low, high):
    """What the position comes to; low if that is less, and high if that is more."""
    if position.mover == NOBODY:
        return min(max(result(position), low), high)
    # A move that leaves few answers is often the best, and a good one first leaves less to look through.
    for after in sorted(positions_behind(position), key=count_choices):
        if position.mover == FIRST:
            low = within(after, low, high)
        else:
            high = within(after, low, high)
        # The one who moves has what is as good as the bound: no other move can change the answer.
        if low == high:
            break
    return low if position.mover == FIRST else high


def has_too_many_empty(position):
    """Whether more squares are empty than are reckoned to the end."""
    return held(position, NOBODY) > MOST_EMPTY


def comes_to(position):
    """What the position comes to; -100 if too many squares are empty."""
    if has_too_many_empty(position):
        return -100
    return within(position, -64, 64)


def leads_to(position, square, value):
    """Whether the position behind the move comes to just this value."""
    after = played(position, square, turned_by(position, square))
    # Bounds one off on either side tell just this value from all others, and are quick to reckon with.
    return within(after, value - 1, value + 1) == value


def best_square(position):
    """The lowest square whose move leads to what the position comes to; -100 as above, -1 if the game is over."""
    if has_too_many_empty(position):
        return -100
    value = comes_to(position)
    for square in listed(position.choices):
        if leads_to(position, square, value):
            return square
    return -1
