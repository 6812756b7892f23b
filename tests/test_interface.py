"""The interface: the form of the list handed in and of the list given back."""

import contextlib
import io
import random
import unittest

from tests.helper import (
    BACK, BEGIN, BEGINNING, BEST, FORM, GREATEST, LEAST, LONGEST_GAME, MOVER, MOVES, SEEN, SHORT_GAME, TEXT, VALUE,
    Model, ask, bytes_of, count, games, joined, play, plays, put, record, seen, told,
)
from turnstones.game import answers

BOARD = [ord(sign) for sign in BEGINNING]


def refuse(*given, **named):
    raise AssertionError("the list handed in is changed")


class Unchanged(list):
    """A list that tells when somebody changes it, for a while too."""

    append = clear = extend = insert = pop = remove = reverse = sort = refuse
    __setitem__ = __delitem__ = __iadd__ = __imul__ = refuse


class Form(unittest.TestCase):
    def test_begin(self):
        self.assertEqual(answers([1, 0, 0]), [1, 0])

    def test_put(self):
        self.assertEqual(answers([1, 0, 0, 2, 1, 2, 1, 64] + BOARD), [1, 0, 1, 0])
        self.assertEqual(answers([1, 0, 0, 2, 1, -3, 1, 64] + BOARD), [1, 0, 1, -1])

    def test_text(self):
        self.assertEqual(answers([1, 0, 0, 3, 0, 0]), [1, 0, 65, 0] + BOARD)

    def test_mover(self):
        self.assertEqual(answers([1, 0, 0, 4, 0, 0]), [1, 0, 1, 1])

    def test_moves(self):
        self.assertEqual(answers([1, 0, 0, 5, 0, 0]), [1, 0, 2, 4, 17729692631040])

    def test_play(self):
        self.assertEqual(answers([1, 0, 0, 6, 1, 19, 0]), [1, 0, 1, 1])
        self.assertEqual(answers([1, 0, 0, 6, 1, -19, 0]), [1, 0, 1, -1])

    def test_back(self):
        self.assertEqual(answers([1, 0, 0, 6, 1, 19, 0, 7, 0, 0, 7, 0, 0]), [1, 0, 1, 1, 1, 0, 1, -1])

    def test_games(self):
        self.assertEqual(answers([1, 0, 0, 8, 1, 3, 0]), [1, 0, 1, 56])
        self.assertEqual(answers([1, 0, 0, 8, 1, -1, 0, 8, 1, 10, 0]), [1, 0, 1, -1, 1, -1])

    def test_value(self):
        self.assertEqual(answers([1, 0, 0, 9, 0, 0]), [1, 0, 1, -100])
        self.assertEqual(answers([1, 0, 0, 2, 1, 1, 1, 64] + [79] * 64 + [9, 0, 0]), [1, 0, 1, 0, 1, -64])
        self.assertEqual(answers([1, 0, 0, 2, 1, 1, 1, 64] + [88] * 64 + [9, 0, 0]), [1, 0, 1, 0, 1, 64])

    def test_best(self):
        self.assertEqual(answers([1, 0, 0, 10, 0, 0]), [1, 0, 1, -100])
        self.assertEqual(answers([1, 0, 0, 2, 1, 1, 1, 64] + [88] * 64 + [10, 0, 0]), [1, 0, 1, 0, 1, -1])
        board = [88] + [79] * 62 + [45]
        self.assertEqual(answers([1, 0, 0, 2, 1, 1, 1, 64] + board + [10, 0, 0]), [1, 0, 1, 0, 1, 63])

    def test_record(self):
        self.assertEqual(answers([1, 0, 0, 11, 1, 4, 1, 4, 100, 51, 67, 51]), [1, 0, 1, 2])
        self.assertEqual(answers([1, 0, 0, 11, 1, 3, 1, 3, 100, 51, 67]), [1, 0, 1, -3])
        self.assertEqual(answers([1, 0, 0, 11, 1, 0, 1, 0]), [1, 0, 1, 0])
        self.assertEqual(answers([1, 0, 0, 11, 1, -1, 1, 0, 11, 1, 257, 1, 0]), [1, 0, 1, -1000, 1, -1000])

    def test_form(self):
        turned = [{88: 79, 79: 88, 45: 45}[byte] for byte in BOARD]
        self.assertEqual(answers([1, 0, 0, 12, 0, 0]), [1, 0, 65, 0] + turned)

    def test_count(self):
        self.assertEqual(answers([1, 0, 0, 13, 1, 0, 0, 13, 1, 1, 0, 13, 1, 2, 0]), [1, 0, 1, 60, 1, 2, 1, 2])
        self.assertEqual(answers([1, 0, 0, 13, 1, 3, 0, 13, 1, -1, 0]), [1, 0, 1, -1, 1, -1])

    def test_the_greatest_and_the_least_int(self):
        for number in (GREATEST, LEAST):
            calls = [BEGIN, put(number, BEGINNING), play(number), games(number), record("", number), count(number)]
            self.assertEqual(answers(joined(calls)), [1, 0, 1, -1, 1, -1, 1, -1, 1, -1000, 1, -1])

    def test_records_that_look_like_calls(self):
        calls = [1, 0, 0, 11, 1, 9, 1, 9, 1, 0, 0, 6, 1, 19, 0, 7, 0, 13, 1, 0, 0, 11, 1, 0, 1, 0, 13, 1, 1, 0]
        self.assertEqual(answers(calls), [1, 0, 1, -1, 1, 60, 1, 0, 1, 2])

    def test_all_in_a_row(self):
        calls = [1, 0, 0, 4, 0, 0, 2, 1, 2, 1, 64] + BOARD + [4, 0, 0, 6, 1, 20, 0, 3, 0, 0, 7, 0, 0, 5, 0, 0]
        moved = list(BOARD)
        moved[20] = moved[28] = 79
        moves = 2 ** 20 + 2 ** 29 + 2 ** 34 + 2 ** 43
        self.assertEqual(answers(calls), [1, 0, 1, 1, 1, 0, 1, 2, 1, 1, 65, 0] + moved + [1, 0, 2, 4, moves])

    def test_arguments_that_look_like_calls(self):
        found = answers([1, 0, 0, 2, 1, 7, 1, 64] + [1, 0, 0, 7] * 16 + [6, 1, 7, 0, 6, 1, 19, 0, 4, 0, 0])
        self.assertEqual(found, [1, 0, 1, -1, 1, -1, 1, 1, 1, 2])

    def test_a_list_of_whole_numbers(self):
        found = answers(HandedIn.calls)
        self.assertIs(type(found), list)
        self.assertEqual({type(number) for number in found}, {int})


class Long(unittest.TestCase):
    def test_400_calls(self):
        cycle = [BEGIN, *plays(SHORT_GAME), MOVER, TEXT, MOVES, BACK, play(0), play(13), BACK, BACK, MOVER]
        calls = cycle * 20
        self.assertEqual(len(calls), 400)
        self.assertEqual(ask(*calls), ask(*cycle) * 20)

    def test_400_of_all_thirteen_calls(self):
        cycle = [
            BEGIN, record(told(LONGEST_GAME[:55])), VALUE, BEST, FORM, count(0), games(9), play(LONGEST_GAME[55]), BACK,
            TEXT, MOVER, MOVES, record("a"), record("", 257), count(3), games(10), put(2, BEGINNING), VALUE, BEST, BACK,
        ]
        self.assertEqual({call[0] for call in cycle}, set(range(1, 14)))
        calls = cycle * 20
        self.assertEqual(len(calls), 400)
        self.assertEqual(ask(*calls), ask(*cycle) * 20)

    def test_400_forms(self):
        self.assertEqual(ask(*[BEGIN] + [FORM] * 399)[1:], [ask(BEGIN, FORM)[1]] * 399)

    def test_as_many_records_of_256_bytes_as_a_list_may_hold(self):
        text = bytes_of(told(LONGEST_GAME)) + [97, 49] * 68
        self.assertEqual(len(text), 256)
        calls = joined([BEGIN] + [record(text)] * 114)
        self.assertLessEqual(len(calls), 30000)
        self.assertEqual(answers(calls), [1, 0] + [1, -121] * 114)

    def test_400_calls_with_the_most_numbers(self):
        calls = [BEGIN] + [put(1 + count % 2, BEGINNING) for count in range(399)]
        self.assertEqual(answers(joined(calls)), [1, 0] * 400)

    def test_400_calls_with_the_most_answers(self):
        self.assertEqual(answers(joined([BEGIN] + [TEXT] * 399)), [1, 0] + ([65, 0] + BOARD) * 399)

    def test_400_refusals(self):
        self.assertEqual(answers(joined([BEGIN] + [BACK] * 399)), [1, 0] + [1, -1] * 399)

    def test_one_call(self):
        self.assertEqual(answers(list(BEGIN)), [1, 0])


class HandedIn(unittest.TestCase):
    calls = joined([
        BEGIN, TEXT, MOVES, play(19), play(19), BACK, BACK, put(2, BEGINNING), play(20), put(3, BEGINNING),
        put(1, "?" * 64), TEXT, MOVER, BACK, TEXT, BEGIN, *plays(LONGEST_GAME), TEXT, BACK, BACK, VALUE, BEST, FORM,
        games(0), games(4), games(-1), games(10), count(0), count(1), count(2), count(-1), BEGIN, VALUE, BEST,
        record(told(SHORT_GAME)), record("a1"), record("d"), record(""), record("", -1), record("", 257), FORM,
        BEGIN, record(told(LONGEST_GAME) + "?" * 136), record(told(LONGEST_GAME)), VALUE, BEST, BACK, TEXT,
    ])

    def test_as_it_was_afterwards(self):
        calls = list(self.calls)
        answers(calls)
        self.assertEqual(calls, self.calls)

    def test_not_changed_for_a_while_either(self):
        self.assertEqual(answers(Unchanged(self.calls)), answers(list(self.calls)))

    def test_what_is_given_back_is_another_list(self):
        calls = list(self.calls)
        found = answers(calls)
        found.clear()
        self.assertEqual(calls, self.calls)


class NothingKept(unittest.TestCase):
    def test_two_do_not_know_of_each_other(self):
        calls = joined([BEGIN, MOVER, TEXT, MOVES, BACK, FORM, games(4), VALUE, BEST, count(0), count(1), count(2)])
        due = answers(calls)
        answers(joined([BEGIN, put(2, "X" * 32 + "O" * 31 + "-"), VALUE, BEST, FORM]))
        self.assertEqual(answers(calls), due)
        answers(joined([BEGIN, play(19), play(18)]))
        self.assertEqual(answers(calls), due)
        answers(joined([BEGIN, record("d3c3b3"), FORM, games(5), VALUE]))
        self.assertEqual(answers(calls), due)
        near_the_end = joined([BEGIN, *plays(LONGEST_GAME[:54]), VALUE, BEST, games(9), FORM])
        due = answers(near_the_end)
        answers(joined([BEGIN, *plays(LONGEST_GAME[:53]), VALUE, BEST, games(9), FORM]))
        self.assertEqual(answers(near_the_end), due)

    def test_the_same_list_twice(self):
        self.assertEqual(answers(HandedIn.calls), answers(HandedIn.calls))

    def test_a_changed_answer_changes_no_later_one(self):
        calls = joined([BEGIN, TEXT, MOVES, FORM, games(3), count(0)])
        due = list(answers(calls))
        found = answers(calls)
        for place in range(len(found)):
            found[place] = 7
        self.assertEqual(answers(calls), due)

    def test_nothing_is_printed(self):
        out, err = io.StringIO(), io.StringIO()
        with contextlib.redirect_stdout(out), contextlib.redirect_stderr(err):
            answers(HandedIn.calls)
        self.assertEqual((out.getvalue(), err.getvalue()), ("", ""))


class AllCalls(unittest.TestCase):
    """Calls in any order, each held to the model."""

    def step(self, model, choice):
        """A call, and what is to be answered."""
        kind = choice.randrange(12)
        if kind < 4 and model.mover != 0:
            square = choice.choice(model.moves(model.mover))
            return play(square), [model.play(square)]
        if kind == 4:
            return BACK, [model.back()]
        if kind == 5:
            depth = choice.choice((-1, 0, 1, 2, 10))
            return games(depth), [model.games(depth)]
        if kind == 6 and (model.count(0) > 10 or model.count(0) < 5):
            return choice.choice(((VALUE, [model.value()]), (BEST, [model.best()])))
        if kind == 7:
            text = bytes_of(told(choice.choices(model.moves(model.mover) or [0], k=choice.randrange(3))))
            return record(text), [model.record(len(text), text)]
        if kind == 8:
            return FORM, [0] + bytes_of(model.form())
        if kind == 9:
            which = choice.randrange(-1, 4)
            return count(which), [model.count(which)]
        if kind == 10 and choice.randrange(6) == 0:
            empty = choice.choice((0, 3, 4, 10, 11, 30))
            signs = choice.choices("XO", k=64 - empty) + ["-"] * empty
            choice.shuffle(signs)
            mover = choice.randrange(0, 4)
            return put(mover, "".join(signs)), [model.put(mover, "".join(signs))]
        return MOVER, [model.mover]

    def test_in_any_order(self):
        choice = random.Random(71)
        for number in range(40):
            model, calls, due = Model(), [BEGIN], [[0]]
            for step in range(choice.randrange(10, 120)):
                call, answer = self.step(model, choice)
                calls.append(call)
                due.append(answer)
            found = ask(*calls, *SEEN)
            self.assertEqual(found[:-3], due)
            self.assertEqual(seen(found[-3:]), model.seen())


class TheModelItself(unittest.TestCase):
    """The tests lean on the model: here it's held to what the document says in so many words."""

    def test_beginning_and_first_move(self):
        model = Model()
        self.assertEqual(model.seen(), (BEGINNING, 1, [19, 26, 37, 44]))
        self.assertEqual((model.play(0), model.play(19), model.mover), (-1, 1, 2))
        self.assertEqual((model.back(), model.back(), model.board), (0, -1, BEGINNING))

    def test_counting_and_reckoning(self):
        model = Model()
        self.assertEqual([model.games(depth) for depth in (-1, 0, 1, 2, 3, 10)], [-1, 1, 4, 12, 56, -1])
        self.assertEqual([model.count(which) for which in (-1, 0, 1, 2, 3)], [-1, 60, 2, 2, -1])
        self.assertEqual((model.value(), model.best()), (-100, -100))
        model.put(1, "X" * 30 + "-" * 10 + "O" * 24)
        self.assertEqual((model.mover, model.value(), model.best(), model.games(9)), (0, 64 - 2 * 24, -1, 1))
        model.put(1, "X" * 24 + "-" * 10 + "O" * 30)
        self.assertEqual((model.mover, model.value(), model.best()), (0, 2 * 24 - 64, -1))
        model.put(1, "O" * 62 + "X-")
        self.assertEqual((model.mover, model.moves(0), model.value()), (2, [], -64))

    def test_records_and_forms(self):
        model = Model()
        self.assertEqual(model.record(5, list(b"d3C3a")), -5)
        self.assertEqual((model.board, model.mover, model.before), (BEGINNING, 1, []))
        self.assertEqual((model.record(4, list(b"d3C3")), len(model.before), model.record(257, [])), (2, 2, -1000))
        model.put(1, "O" * 63 + "X")
        self.assertEqual(model.form(), "X" + "O" * 63)


if __name__ == "__main__":
    unittest.main()
