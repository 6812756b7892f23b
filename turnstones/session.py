"""One game as it is played: the position now, and those before it that can be taken back to."""

from turnstones.board import BYTE_OF_FIRST, BYTE_OF_SECOND, is_board, squares_with
from turnstones.position import FIRST, SECOND, beginning, played, settled, turned_by
from turnstones.record import square_told
from turnstones.squares import size

KEPT_BEFORE = 128
LONGEST_RECORD = 256


class Session:
    """The position, and the positions before it, the latest last."""

    def __init__(self):
        self.position = beginning()
        self.before = []

    def start_from(self, position):
        """Goes on from the position, with nothing before it."""
        self.position = position
        self.before = []

    def go_on_to(self, position):
        """Goes on to the position behind a move, and keeps the one before it."""
        self.before.append(self.position)
        if len(self.before) > KEPT_BEFORE:
            self.before.pop(0)
        self.position = position

    def begin(self):
        """Goes to the beginning; 0."""
        self.start_from(beginning())
        return 0

    def put(self, mover, text):
        """Sets up the board, with mover to move if possible; 0, or -1 if it is no board or no mover."""
        if mover not in (FIRST, SECOND) or not is_board(text):
            return -1
        first = squares_with(text, BYTE_OF_FIRST)
        second = squares_with(text, BYTE_OF_SECOND)
        self.start_from(settled(first, second, mover))
        return 0

    def play(self, square):
        """Makes the move; how many stones it turned, or -1 if it can't be made."""
        turned = turned_by(self.position, square)
        if turned == 0:
            return -1
        self.go_on_to(played(self.position, square, turned))
        return size(turned)

    def record(self, length, text):
        """Makes the moves that the text tells; how many, or -1 less the place of the first that can't be made."""
        if length < 0 or length > LONGEST_RECORD:
            return -1000
        position = self.position
        reached = []
        for place in range(0, length, 2):
            square = square_told(text, place)
            turned = turned_by(position, square)
            if turned == 0:
                return -1 - place
            position = played(position, square, turned)
            reached.append(position)
        # Only now, for a record that can't be played to its end changes nothing.
        for position in reached:
            self.go_on_to(position)
        return len(reached)

    def back(self):
        """Takes the last move back; 0, or -1 if there is none."""
        if len(self.before) == 0:
            return -1
        self.position = self.before.pop()
        return 0
