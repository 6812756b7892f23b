"""Records: moves told one behind another, each by a letter for the column and a digit for the row."""

SMALL_A = 97
LARGE_A = 65
DIGIT_1 = 49


def column_of(letter):
    """The column, 0 to 7, that a letter a to h or A to H tells; else -1."""
    for first_letter in (SMALL_A, LARGE_A):
        if first_letter <= letter <= first_letter + 7:
            return letter - first_letter
    return -1


def square_told(text, place):
    """The square that the byte at the place and the next one tell; -1 if they tell none, or there's no next one."""
    if place + 1 >= len(text):
        return -1
    column = column_of(text[place])
    row = text[place + 1] - DIGIT_1
    if column < 0 or row < 0 or row > 7:
        return -1
    return 8 * row + column
