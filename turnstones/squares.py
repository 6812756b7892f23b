"""Sets of squares. A set is one whole number: the sum of 2 to the number of each square in it."""

# The four lines through a square: a step along one adds the first figure to the square's number, or takes it away.
# Stones that are turned lie between two others, so never in a column or row where the line ends. The second figure,
# the squares without these, keeps the steps on the board: from one of them a step can't go over the edge, and a step
# that does, from elsewhere, comes out at the far edge or nowhere, so on none of them.
LINES = (
    (1, 0x7e7e7e7e7e7e7e7e),
    (8, 0x00ffffffffffff00),
    (7, 0x007e7e7e7e7e7e00),
    (9, 0x007e7e7e7e7e7e00),
)
EVERY_SQUARE = 0xffffffffffffffff


def size(squares):
    """How many squares are in the set."""
    # Two squares' counts are added up side by side in all places at once, then four squares', then eight's.
    twos = squares - ((squares >> 1) & 0x5555555555555555)
    fours = (twos & 0x3333333333333333) + ((twos >> 2) & 0x3333333333333333)
    eights = (fours + (fours >> 4)) & 0x0f0f0f0f0f0f0f0f
    # 256 is 1 more than 255, so what is left over is the sum of the eight counts.
    return eights % 255


def listed(squares):
    """The numbers of the squares in the set, the lowest first."""
    found = []
    rest = squares
    while rest != 0:
        # Taking 1 away changes the lowest bit and those below it, so this drops just the lowest.
        without_lowest = rest & (rest - 1)
        found.append((rest ^ without_lowest).bit_length() - 1)
        rest = without_lowest
    return found


# Counting ways and reckoning to the end spend most of their time in the two functions below, so that
# they go along all lines, up and down, by themselves.


def stones_turned(stone, own, other):
    """What a stone put on an empty square turns in all directions."""
    found = 0
    for step, inside in LINES:
        between = other & inside
        row = 0
        reached = stone << step
        while reached & between != 0:
            row = row | reached
            reached = reached << step
        if reached & own != 0:
            found = found | row
        row = 0
        reached = stone >> step
        while reached & between != 0:
            row = row | reached
            reached = reached >> step
        if reached & own != 0:
            found = found | row
    return found


def squares_to_play(own, other):
    """The empty squares on which one's stone turns at least one of the other's."""
    found = 0
    for step, inside in LINES:
        between = other & inside
        row = (own << step) & between
        while row != 0:
            behind_row = row << step
            found = found | behind_row
            row = behind_row & between
        row = (own >> step) & between
        while row != 0:
            behind_row = row >> step
            found = found | behind_row
            row = behind_row & between
    return found & (EVERY_SQUARE ^ (own | other))
