"""Promise 9: ot_record."""

import random
import unittest

from tests.helper import (
    BACK, BEGIN, GREATEST, LEAST, LONGEST_GAME, SEEN, SHORT_GAME, Model,
    after, ask, board, bytes_of, play, plays, put, record, seen, told,
)
from turnstones.position import Position, beginning
from turnstones.session import Session

NO_LENGTHS = (-1, 257, 258, -2, -256, 512, 2 ** 30, GREATEST, LEAST, GREATEST - 1, LEAST + 1)
LONGEST_RECORD = told(LONGEST_GAME)
SHORT_RECORD = told(SHORT_GAME)


class Made(unittest.TestCase):
    def same_as_plays(self, ahead, squares, text):
        """The record makes these moves, each of which can be taken back by itself."""
        self.assertEqual(ask(*ahead, record(text))[-1], [len(squares)])
        backs = [*SEEN, *[BACK, *SEEN] * (len(squares) + 2)]
        found = ask(*ahead, record(text), *backs)[len(ahead) + 1:]
        self.assertEqual(found, ask(*ahead, *plays(squares), *backs)[len(ahead) + len(squares):])

    def test_one_move(self):
        self.assertEqual(ask(BEGIN, record("d3"))[1], [1])
        self.assertEqual(after(BEGIN, record("d3")), after(BEGIN, play(19)))
        self.same_as_plays([BEGIN], [19], "d3")

    def test_several_moves(self):
        self.same_as_plays([BEGIN], [19, 18, 17], "d3c3b3")
        self.same_as_plays([BEGIN], SHORT_GAME, SHORT_RECORD)

    def test_whole_games(self):
        self.assertEqual(ask(BEGIN, record(LONGEST_RECORD))[1], [60])
        self.assertEqual(after(BEGIN, record(LONGEST_RECORD)), after(BEGIN, *plays(LONGEST_GAME)))
        self.same_as_plays([BEGIN], LONGEST_GAME, LONGEST_RECORD)

    def test_somebody_is_passed_over(self):
        # Both are in the longest game. Here one moves three times, and then it's over.
        for mover, own, other in ((1, "X", "O"), (2, "O", "X")):
            ahead = [BEGIN, put(mover, board({0: own, 1: other, 24: own, 25: other, 56: own, 57: other}))]
            self.same_as_plays(ahead, [26, 58, 2], "c4c8c1")
            self.assertEqual(after(*ahead, record("c4c8c1"))[1], 0)
            self.same_as_plays(ahead, [26, 58], "c4c8")
            self.assertEqual(after(*ahead, record("c4c8"))[1:], (mover, [2]))

    def test_small_and_large_letters(self):
        self.same_as_plays([BEGIN], SHORT_GAME, SHORT_RECORD.upper())
        mixed = "".join(sign.upper() if place % 4 == 0 else sign for place, sign in enumerate(LONGEST_RECORD))
        self.same_as_plays([BEGIN], LONGEST_GAME, mixed)

    def test_every_square(self):
        for square in range(64):
            step = 1 if square % 8 < 4 else -1
            text = board({square + step: "O", square + 2 * step: "X"})
            self.same_as_plays([BEGIN, put(1, text)], [square], told([square]))
            self.same_as_plays([BEGIN, put(1, text)], [square], told([square]).upper())

    def test_no_moves(self):
        for ahead in ([BEGIN], [BEGIN, play(19)], [BEGIN, *plays(SHORT_GAME)], [BEGIN, put(1, "X" * 64)]):
            self.assertEqual(ask(*ahead, record(""))[-1], [0])
            self.same_as_plays(ahead, [], "")

    def test_in_parts_with_other_calls_between(self):
        calls = [BEGIN, record(SHORT_RECORD[:6]), play(SHORT_GAME[3]), record(""), record(SHORT_RECORD[8:])]
        self.assertEqual(ask(*calls)[1:], [[3], [1], [0], [6]])
        self.assertEqual(after(*calls), after(BEGIN, *plays(SHORT_GAME)))
        self.assertEqual(ask(*calls, *[BACK] * 11)[5:], [[0]] * 10 + [[-1]])

    def test_another_record_after_some_were_taken_back(self):
        calls = [BEGIN, record("d3c3b3"), BACK, BACK, record("c5d6")]
        self.assertEqual(ask(*calls)[-1], [2])
        self.assertEqual(after(*calls), after(BEGIN, play(19), play(34), play(43)))
        self.assertEqual(after(*calls, BACK), after(BEGIN, play(19), play(34)))


class Refused(unittest.TestCase):
    def refused(self, ahead, text, answer, n=None):
        """The record is refused with this number, and all is as it was, the positions before included."""
        self.assertEqual(ask(*ahead, record(text, n))[-1], [answer], text)
        backs = [*SEEN, *[BACK, *SEEN] * 5]
        found = ask(*ahead, record(text, n), *backs)[len(ahead) + 1:]
        self.assertEqual(found, ask(*ahead, *backs)[len(ahead):], text)

    def everywhere(self, two):
        """These bytes tell no move: they're refused in the first, a middle and the last place."""
        ahead = [BEGIN, play(44), play(29)]
        rest = bytes_of(told(SHORT_GAME[2:]))
        self.refused(ahead, two + rest, -1)
        self.refused(ahead, rest[:6] + two + rest[6:], -7)
        self.refused(ahead, rest[:12] + two, -13)
        self.refused([BEGIN], two, -1)

    def test_the_length(self):
        for n in NO_LENGTHS:
            for ahead in ([BEGIN], [BEGIN, play(44), play(29)], [BEGIN, *plays(SHORT_GAME)]):
                self.refused(ahead, "", -1000, n)

    def test_a_move_that_can_t_be_made(self):
        for two in ("a1", "h8", "e4", "f4", "A8", "g2"):
            self.everywhere(bytes_of(two))

    def test_a_move_made_twice(self):
        self.refused([BEGIN], "d3d3", -3)
        self.refused([BEGIN], "d3c3c3", -5)
        self.refused([BEGIN, play(19)], "d3", -1)

    def test_the_other_one_s_move(self):
        self.refused([BEGIN], "e3", -1)
        self.refused([BEGIN, record("d3")], "c4", -1)

    def test_bytes_that_tell_none(self):
        for two in ("3d", "33", "dd", "d ", " d", "d0", "d9", "i3", "I3", "`3", "@3", "d/", "d:", "--", "XO", "d\n"):
            self.everywhere(bytes_of(two))

    def test_every_byte_as_a_letter(self):
        # Each of the boards has one move alone, in another column of row 3.
        for byte in range(256):
            answers_found = []
            for square in range(16, 24):
                step = 1 if square % 8 < 4 else -1
                text = board({square + step: "O", square + 2 * step: "X"})
                answers_found += ask(BEGIN, put(1, text), record([byte, 51]))[2]
            due = [-1] * 8
            for letters in (b"abcdefgh", b"ABCDEFGH"):
                if byte in letters:
                    due[letters.index(byte)] = 1
            self.assertEqual(answers_found, due, byte)

    def test_every_byte_as_a_digit(self):
        # Each of the boards has one move alone, in another row of column d.
        for byte in range(256):
            answers_found = []
            for square in range(3, 64, 8):
                text = board({square + 1: "O", square + 2: "X"})
                answers_found += ask(BEGIN, put(1, text), record([100, byte]))[2]
            due = [-1] * 8
            if byte in b"12345678":
                due[byte - 49] = 1
            self.assertEqual(answers_found, due, byte)

    def test_a_number_that_would_run_into_another_square(self):
        # Were the square only reckoned, i2 would be a3, k2 c3, i0 a1, and the sign ahead of a with 9 h8, with 3 h2.
        self.refused([BEGIN, put(1, board({17: "O", 18: "X"}))], "i2", -1)
        self.refused([BEGIN, put(1, board({16: "X", 17: "O"}))], "k2", -1)
        self.refused([BEGIN, put(1, board({8: "O", 16: "X"}))], "i0", -1)
        self.refused([BEGIN, put(1, board({61: "X", 62: "O"}))], "`9", -1)
        for byte in range(256):
            if byte not in b"abcdefghABCDEFGH":
                self.refused([BEGIN, put(1, board({13: "X", 14: "O"}))], [byte, 51], -1)

    def test_one_byte_left_over(self):
        for byte in (100, 68, 51, 122, 0, 255, 32):
            self.refused([BEGIN], [byte], -1)
            self.refused([BEGIN, play(44), play(29)], bytes_of(told(SHORT_GAME[2:5])) + [byte], -7)
            self.refused([BEGIN, play(44)], bytes_of(told(SHORT_GAME[1:])) + [byte], -19)
            self.refused([BEGIN, play(44)], bytes_of(told(LONGEST_GAME[1:])) + [byte], -119)

    def test_the_first_fault_is_told(self):
        self.refused([BEGIN], "d3zzc3d", -3)
        self.refused([BEGIN], "d3d3zz", -3)
        self.refused([BEGIN], "zzd3a1", -1)
        self.refused([BEGIN], "a1zz", -1)
        self.refused([BEGIN], "a1d", -1)
        self.refused([BEGIN], " d3", -1)
        self.refused([BEGIN], "d3 c3", -3)

    def test_behind_the_game_s_end(self):
        self.refused([BEGIN, *plays(SHORT_GAME)], "a1", -1)
        self.refused([BEGIN, *plays(SHORT_GAME)], "d3c3", -1)
        self.refused([BEGIN], SHORT_RECORD + "a1", -21)
        self.refused([BEGIN], SHORT_RECORD + "d3c3", -21)
        self.refused([BEGIN, play(44)], LONGEST_RECORD[2:] + "a1", -119)
        self.refused([BEGIN, put(1, "-" * 64)], "d3", -1)

    def test_of_256_bytes(self):
        self.refused([BEGIN], "d3" * 128, -3)
        self.refused([BEGIN], LONGEST_RECORD + "a1" * 68, -121)
        self.refused([BEGIN], SHORT_RECORD + "d3" * 118, -21)
        self.refused([BEGIN], [0] * 256, -1)
        self.refused([BEGIN], [255] * 255, -1)

    def test_a_move_can_be_made_afterwards(self):
        calls = [BEGIN, record("d3c3a1"), record("d3c3"), record("b", None), play(17)]
        self.assertEqual(ask(*calls), [[0], [-5], [2], [-1], [1]])
        self.assertEqual(after(*calls), after(BEGIN, play(19), play(18), play(17)))


class Kept(unittest.TestCase):
    """No game is long enough to reach the 128, so the session is asked straight."""

    def test_the_last_128_positions_before(self):
        for ahead, made in ((120, 10), (128, 10), (127, 1), (128, 1), (118, 10), (128, 60)):
            session = Session()
            for mark in range(1, ahead + 1):
                session.go_on_to(Position(mark, 0, 1))
            session.position = beginning()
            text = bytes_of(told(SHORT_GAME if made == 10 else LONGEST_GAME[:made]))
            self.assertEqual(session.record(len(text), text), made)
            taken_back = 0
            while session.back() == 0:
                taken_back += 1
            self.assertEqual(taken_back, min(128, ahead + made))

    def test_all_are_kept_when_it_is_refused(self):
        session = Session()
        for mark in range(1, 129):
            session.go_on_to(Position(mark, 0, 1))
        session.position = beginning()
        before = list(session.before)
        self.assertEqual(session.record(6, bytes_of("d3c3a1")), -5)
        self.assertEqual(session.before, before)


class ManyRecords(unittest.TestCase):
    def text(self, model, choice):
        """A record that can be played from the model's position, or nearly one."""
        there = Model()
        there.board, there.mover = model.board, model.mover
        squares = []
        while there.mover != 0 and len(squares) < choice.randrange(1, 40):
            squares.append(choice.choice(there.moves(there.mover)))
            there.play(squares[-1])
        text = [ord(choice.choice((sign, sign.upper()))) for sign in told(squares)]
        if text and choice.randrange(3) == 0:
            text[choice.randrange(len(text))] = choice.choice([choice.randrange(256), *b"abcdefgh12345678"])
        if choice.randrange(6) == 0:
            text += choice.choices(b"abcdefghABCDEFGH12345678", k=choice.randrange(1, 4))
        return text

    def test_as_the_model_tells(self):
        choice = random.Random(51)
        refused = 0
        for number in range(100):
            model, calls, due = Model(), [BEGIN], [[0]]
            for part in range(choice.randrange(1, 5)):
                text = self.text(model, choice)
                calls.append(record(text))
                due.append([model.record(len(text), text)])
                refused += due[-1][0] < 0
                if choice.randrange(3) == 0:
                    calls.append(BACK)
                    due.append([model.back()])
            found = ask(*calls, *SEEN)
            self.assertEqual(found[:-3], due)
            self.assertEqual(seen(found[-3:]), model.seen())
        self.assertGreater(refused, 30)


if __name__ == "__main__":
    unittest.main()
