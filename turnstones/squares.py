"""Sets of squares. A set is one whole number: the sum of 2 to the number of each square in it."""

# A step adds to every square's number (the first figure) or takes away from it (the second).
# A step over the side edge would come out on the next row's far side, so the third figure,
# the squares that the step may land on, leaves out the column where it would.
DIRECTIONS = (
    (1, 0, 0xfefefefefefefefe),
    (0, 1, 0x7f7f7f7f7f7f7f7f),
    (8, 0, 0xffffffffffffffff),
    (0, 8, 0xffffffffffffffff),
    (9, 0, 0xfefefefefefefefe),
    (0, 9, 0x7f7f7f7f7f7f7f7f),
    (7, 0, 0x7f7f7f7f7f7f7f7f),
    (0, 7, 0xfefefefefefefefe),
)
EVERY_SQUARE = 0xffffffffffffffff


def size(squares):
    """How many squares are in the set."""
    found = 0
    rest = squares
    while rest != 0:
        # Taking 1 away changes the lowest bit and those below it, so this drops just the lowest.
        rest = rest & (rest - 1)
        found = found + 1
    return found


def listed(squares):
    """The numbers of the squares in the set, the lowest first."""
    found = []
    rest = squares
    while rest != 0:
        without_lowest = rest & (rest - 1)
        found.append((rest ^ without_lowest).bit_length() - 1)
        rest = without_lowest
    return found


# Counting ways and reckoning to the end spend most of their time in the two functions below, so that
# they go along all eight directions by themselves. One step is (squares << up) >> down, & landing.


def stones_turned(stone, own, other):
    """What a stone put on an empty square turns in all directions."""
    found = 0
    for up, down, landing in DIRECTIONS:
        row = 0
        reached = ((stone << up) >> down) & landing
        while reached & other != 0:
            row = row | reached
            reached = ((reached << up) >> down) & landing
        if reached & own != 0:
            found = found | row
    return found


def squares_to_play(own, other):
    """The empty squares on which one's stone turns at least one of the other's."""
    found = 0
    for up, down, landing in DIRECTIONS:
        row = ((own << up) >> down) & landing & other
        while row != 0:
            behind_row = ((row << up) >> down) & landing
            found = found | behind_row
            row = behind_row & other
    return found & (EVERY_SQUARE ^ (own | other))
