"""Sets of squares. A set is one whole number: the sum of 2 to the number of each square in it."""

# A step adds to every square's number (the first figure) or takes away from it (the second).
# A step over the side edge would come out on the next row's far side, so the third figure,
# the squares that the step may land on, leaves out the column where it would.
DIRECTIONS = (
    (1, 0, 0xfefefefefefefefe),
    (0, 1, 0x7f7f7f7f7f7f7f7f),
    (8, 0, 0xffffffffffffffff),
    (0, 8, 0xffffffffffffffff),
    (9, 0, 0xfefefefefefefefe),
    (0, 9, 0x7f7f7f7f7f7f7f7f),
    (7, 0, 0x7f7f7f7f7f7f7f7f),
    (0, 7, 0xfefefefefefefefe),
)
EVERY_SQUARE = 0xffffffffffffffff


def size(squares):
    """How many squares are in the set."""
    found = 0
    rest = squares
    while rest != 0:
        # Taking 1 away changes the lowest bit and those below it, so this drops just the lowest.
        rest = rest & (rest - 1)
        found = found + 1
    return found


def stepped(squares, up, down, landing):
    """The squares one step further, without those that step off the board."""
    return ((squares << up) >> down) & landing


def row_turned(stone, own, other, up, down, landing):
    """What a stone put on an empty square turns in one direction."""
    row = 0
    reached = stepped(stone, up, down, landing)
    while reached & other != 0:
        row = row | reached
        reached = stepped(reached, up, down, landing)
    if reached & own == 0:
        return 0
    return row


def stones_turned(stone, own, other):
    """What a stone put on an empty square turns in all directions."""
    found = 0
    for up, down, landing in DIRECTIONS:
        found = found | row_turned(stone, own, other, up, down, landing)
    return found


def row_ends(own, other, up, down, landing):
    """The squares just behind a row of the other's stones that begins beside one's own stone."""
    found = 0
    row = stepped(own, up, down, landing) & other
    while row != 0:
        reached = stepped(row, up, down, landing)
        found = found | reached
        row = reached & other
    return found


def squares_to_play(own, other):
    """The empty squares on which one's stone turns at least one of the other's."""
    found = 0
    for up, down, landing in DIRECTIONS:
        found = found | row_ends(own, other, up, down, landing)
    return found & (EVERY_SQUARE ^ (own | other))
