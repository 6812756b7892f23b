"""Promise 7: ot_games comes to its answer at every board, so what it keeps at one time has a fixed bound."""

import pathlib
import random
import subprocess
import sys
import unittest
from unittest import mock

from tests.helper import (
    BEGIN, BEGINNING, LONGEST_GAME, SHORT_GAME, Model, apart, ask, board, games, joined, plays, put, record,
)

TOP = pathlib.Path(__file__).resolve().parent.parent

# An ordinary game so far. Behind 1 to 5 more moves there are 16, 259, 3020, 36603 and 381678 different positions.
ORDINARY = "d3c3b3c5f6f3f4f5c6f7g6b7b6c4b5a7g4g5f2b2e6g2"
WAYS_OF_ORDINARY = (1, 16, 259, 3833, 59733, 859875, 12960270)
# The board that a long search for the most ways by three moves came to, from every board that it began with.
WIDEST = (
    "-----OX-"
    "-OX-OXO-"
    "-OXO-XO-"
    "-XO-----"
    "-XO--OX-"
    "-OXO-XO-"
    "-OX-OXO-"
    "--------"
)
# Counted by another program, every way by itself, for the first and for the second to move.
WAYS_OF_WIDEST = {1: (1, 33, 800, 22049, 453589, 10626219), 2: (1, 26, 770, 16723, 417217, 7767378)}

# Longer is no list and no dict, and in all of them together there is no more, however many positions are reached.
LONGEST = 20000
MOST = 100000
# All levels at once are well within these; what the 381678 positions take is far beyond.
MOST_BYTES = 40000000


class Watch:
    """Looks at the lists, tuples and dicts of the package's functions whenever one of them ends."""

    def __init__(self):
        self.longest = 0
        self.most = 0
        self.looks = 0

    def answers_to(self, *calls):
        """The answers to the calls, watched."""
        sys.setprofile(self.look)
        try:
            return ask(*calls)
        finally:
            sys.setprofile(None)

    def look(self, frame, event, value):
        """Sees what one function gives back and what its caller holds, which grows by a little between two looks."""
        if event == "return" and is_watched(frame):
            held = [value, *frame.f_locals.values()]
            if is_watched(frame.f_back):
                held += frame.f_back.f_locals.values()
            self.longest = max(self.longest, *lengths(held))
            self.looks += 1
            if self.looks % 100 == 0:
                self.most = max(self.most, sum(lengths(all_held(frame))))


def is_watched(frame):
    """Whether it is a function of the package that is under way."""
    return frame.f_globals.get("__name__", "").startswith("turnstones.")


def lengths(values):
    """How long they are, the whole numbers 0."""
    return [len(value) if isinstance(value, (list, tuple, dict)) else 0 for value in values]


def all_held(frame):
    """What all functions hold that are under way; what two of them hold stands there once."""
    found = {}
    while frame is not None:
        if is_watched(frame):
            found.update((id(value), value) for value in frame.f_locals.values())
        frame = frame.f_back
    return found.values()


def level_of(fullness):
    """Lets a level be full with so many entries."""
    return mock.patch("turnstones.ways.FULL", fullness)


def any_board(choice, weights):
    """A board and who is to move on it, both by chance."""
    return choice.choice((1, 2)), "".join(choice.choices("XO-", weights, k=64))


class TheBound(unittest.TestCase):
    def watched(self, *calls):
        """The last answer, when nothing has grown beyond the bound on the way to it."""
        watch = Watch()
        found = watch.answers_to(*calls)[-1]
        self.assertLess(watch.longest, LONGEST)
        self.assertLess(watch.most, MOST)
        # The count has been seen, and has come as far as levels that were full.
        self.assertGreater(watch.longest, 10000)
        return found

    def test_behind_an_ordinary_game(self):
        calls = [BEGIN, record(ORDINARY), games(5)]
        self.assertEqual(self.watched(*calls), [WAYS_OF_ORDINARY[5]])

    def test_on_the_widest_board(self):
        calls = [BEGIN, put(1, WIDEST), games(5)]
        self.assertEqual(self.watched(*calls), [WAYS_OF_WIDEST[1][5]])

    def test_small_levels_on_any_board(self):
        choice = random.Random(91)
        for weights in ((1, 1, 1), (1, 1, 2), (2, 1, 1), (1, 2, 4), (10, 1, 2)):
            mover, text = any_board(choice, weights)
            watch = Watch()
            with level_of(50):
                watch.answers_to(BEGIN, put(mover, text), games(4))
            # 50, and what comes behind one position; the list of the calls itself is shorter.
            self.assertLess(watch.longest, 50 + 64, text)
            self.assertLess(watch.most, 10 * (50 + 64), text)


class Memory(unittest.TestCase):
    def answers_with_little_memory(self, *calls):
        """The answers of a program of its own that may take just so much more memory than it has to begin with."""
        script = (
            "import resource, sys\n"
            "from turnstones.game import answers\n"
            "calls = [int(word) for word in sys.argv[1].split()]\n"
            "pages = int(open('/proc/self/statm').read().split()[0])\n"
            f"most = pages * resource.getpagesize() + {MOST_BYTES}\n"
            "resource.setrlimit(resource.RLIMIT_AS, (most, most))\n"
            "print(*answers(calls))\n"
        )
        words = " ".join(map(str, joined(calls)))
        done = subprocess.run([sys.executable, "-c", script, words], capture_output=True, text=True, cwd=TOP)
        self.assertEqual((done.returncode, done.stderr), (0, ""))
        return apart([int(word) for word in done.stdout.split()])

    def test_behind_an_ordinary_game(self):
        found = self.answers_with_little_memory(BEGIN, record(ORDINARY), games(6))
        self.assertEqual(found, [[0], [22], [WAYS_OF_ORDINARY[6]]])

    def test_on_the_widest_board(self):
        for mover, ways in WAYS_OF_WIDEST.items():
            found = self.answers_with_little_memory(BEGIN, put(mover, WIDEST), games(5))
            self.assertEqual(found, [[0], [0], [ways[5]]])


class LevelsInParts(unittest.TestCase):
    """However small the levels are, the count comes to the same."""

    def test_behind_an_ordinary_game(self):
        for fullness in (1, 2, 17, 300, 4000, 10 ** 6):
            with level_of(fullness):
                for depth, ways in enumerate(WAYS_OF_ORDINARY[:5]):
                    self.assertEqual(ask(BEGIN, record(ORDINARY), games(depth))[-1], [ways], (fullness, depth))

    def test_on_the_widest_board(self):
        for fullness in (1, 40, 3000):
            with level_of(fullness):
                for mover, ways in WAYS_OF_WIDEST.items():
                    for depth in range(4):
                        found = ask(BEGIN, put(mover, WIDEST), games(depth))[-1]
                        self.assertEqual(found, [ways[depth]], (fullness, mover, depth))

    def test_at_just_the_number_of_entries(self):
        # Behind one move there are 16 entries, behind two 259: one fewer, just so many, one more.
        for fullness in (15, 16, 17, 258, 259, 260, 3019, 3020, 3021):
            with level_of(fullness):
                self.assertEqual(ask(BEGIN, record(ORDINARY), games(4))[-1], [WAYS_OF_ORDINARY[4]], fullness)

    def test_on_any_board(self):
        choice = random.Random(92)
        for number in range(40):
            mover, text = any_board(choice, choice.choice(((1, 1, 1), (30, 1, 2), (1, 30, 2), (8, 8, 1))))
            model = Model()
            model.put(mover, text)
            asked = [[model.games(depth)] for depth in range(4)]
            with level_of(choice.choice((1, 2, 3, 10, 30))):
                found = ask(BEGIN, put(mover, text), *[games(depth) for depth in range(4)])[2:]
            self.assertEqual(found, asked, text)

    def test_to_the_end(self):
        for length in (55, 57, 59, 60):
            model = Model()
            for square in LONGEST_GAME[:length]:
                model.play(square)
            asked = [[model.games(depth)] for depth in range(10)]
            for fullness in (1, 3, 12):
                with level_of(fullness):
                    found = ask(BEGIN, *plays(LONGEST_GAME[:length]), *[games(depth) for depth in range(10)])[-10:]
                self.assertEqual(found, asked, (length, fullness))

    def test_games_that_are_over_and_moves_that_are_passed_over(self):
        three_in_any_order = board({0: "X", 1: "O", 24: "X", 25: "O", 56: "X", 57: "O"})
        for fullness in (1, 2, 3):
            with level_of(fullness):
                for mover in (1, 2):
                    found = ask(BEGIN, put(mover, three_in_any_order), *[games(depth) for depth in range(10)])[2:]
                    self.assertEqual(found, [[1], [3]] + [[6]] * 8)
                for ahead in (plays(SHORT_GAME), [put(1, "X" * 64)], [put(2, "-" * 64)]):
                    self.assertEqual(ask(BEGIN, *ahead, games(9))[-1], [1])

    def test_from_the_beginning(self):
        for fullness in (1, 100):
            with level_of(fullness):
                for mover in (1, 2):
                    self.assertEqual(ask(BEGIN, put(mover, BEGINNING), games(7))[-1], [55092])


if __name__ == "__main__":
    unittest.main()
