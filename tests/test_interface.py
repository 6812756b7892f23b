"""The interface: the form of the list handed in and of the list given back."""

import contextlib
import io
import unittest

from tests.helper import (
    BACK, BEGIN, BEGINNING, LONGEST_GAME, MOVER, MOVES, SHORT_GAME, TEXT, Model, ask, joined, play, plays, put,
)
from turnstones.game import answers

BOARD = [ord(sign) for sign in BEGINNING]


def refuse(*given, **named):
    raise AssertionError("the list handed in is changed")


class Unchanged(list):
    """A list that tells when somebody changes it, for a while too."""

    append = clear = extend = insert = pop = remove = reverse = sort = refuse
    __setitem__ = __delitem__ = __iadd__ = __imul__ = refuse


class Form(unittest.TestCase):
    def test_begin(self):
        self.assertEqual(answers([1, 0, 0]), [1, 0])

    def test_put(self):
        self.assertEqual(answers([1, 0, 0, 2, 1, 2, 1, 64] + BOARD), [1, 0, 1, 0])
        self.assertEqual(answers([1, 0, 0, 2, 1, -3, 1, 64] + BOARD), [1, 0, 1, -1])

    def test_text(self):
        self.assertEqual(answers([1, 0, 0, 3, 0, 0]), [1, 0, 65, 0] + BOARD)

    def test_mover(self):
        self.assertEqual(answers([1, 0, 0, 4, 0, 0]), [1, 0, 1, 1])

    def test_moves(self):
        self.assertEqual(answers([1, 0, 0, 5, 0, 0]), [1, 0, 2, 4, 17729692631040])

    def test_play(self):
        self.assertEqual(answers([1, 0, 0, 6, 1, 19, 0]), [1, 0, 1, 1])
        self.assertEqual(answers([1, 0, 0, 6, 1, -19, 0]), [1, 0, 1, -1])

    def test_back(self):
        self.assertEqual(answers([1, 0, 0, 6, 1, 19, 0, 7, 0, 0, 7, 0, 0]), [1, 0, 1, 1, 1, 0, 1, -1])

    def test_all_in_a_row(self):
        calls = [1, 0, 0, 4, 0, 0, 2, 1, 2, 1, 64] + BOARD + [4, 0, 0, 6, 1, 20, 0, 3, 0, 0, 7, 0, 0, 5, 0, 0]
        moved = list(BOARD)
        moved[20] = moved[28] = 79
        moves = 2 ** 20 + 2 ** 29 + 2 ** 34 + 2 ** 43
        self.assertEqual(answers(calls), [1, 0, 1, 1, 1, 0, 1, 2, 1, 1, 65, 0] + moved + [1, 0, 2, 4, moves])

    def test_arguments_that_look_like_calls(self):
        found = answers([1, 0, 0, 2, 1, 7, 1, 64] + [1, 0, 0, 7] * 16 + [6, 1, 7, 0, 6, 1, 19, 0, 4, 0, 0])
        self.assertEqual(found, [1, 0, 1, -1, 1, -1, 1, 1, 1, 2])

    def test_a_list_of_whole_numbers(self):
        calls = joined([BEGIN, TEXT, MOVER, MOVES, play(19), play(0), BACK, BACK, put(1, BEGINNING), put(0, BEGINNING)])
        found = answers(calls)
        self.assertIs(type(found), list)
        self.assertEqual({type(number) for number in found}, {int})


class Long(unittest.TestCase):
    def test_400_calls(self):
        cycle = [BEGIN, *plays(SHORT_GAME), MOVER, TEXT, MOVES, BACK, play(0), play(13), BACK, BACK, MOVER]
        calls = cycle * 20
        self.assertEqual(len(calls), 400)
        self.assertEqual(ask(*calls), ask(*cycle) * 20)

    def test_400_calls_with_the_most_numbers(self):
        calls = [BEGIN] + [put(1 + count % 2, BEGINNING) for count in range(399)]
        self.assertEqual(answers(joined(calls)), [1, 0] * 400)

    def test_400_calls_with_the_most_answers(self):
        self.assertEqual(answers(joined([BEGIN] + [TEXT] * 399)), [1, 0] + ([65, 0] + BOARD) * 399)

    def test_400_refusals(self):
        self.assertEqual(answers(joined([BEGIN] + [BACK] * 399)), [1, 0] + [1, -1] * 399)

    def test_one_call(self):
        self.assertEqual(answers(list(BEGIN)), [1, 0])


class HandedIn(unittest.TestCase):
    calls = joined([
        BEGIN, TEXT, MOVES, play(19), play(19), BACK, BACK, put(2, BEGINNING), play(20), put(3, BEGINNING),
        put(1, "?" * 64), TEXT, MOVER, BACK, TEXT, BEGIN, *plays(LONGEST_GAME), TEXT,
    ])

    def test_as_it_was_afterwards(self):
        calls = list(self.calls)
        answers(calls)
        self.assertEqual(calls, self.calls)

    def test_not_changed_for_a_while_either(self):
        self.assertEqual(answers(Unchanged(self.calls)), answers(list(self.calls)))

    def test_what_is_given_back_is_another_list(self):
        calls = list(self.calls)
        found = answers(calls)
        found.clear()
        self.assertEqual(calls, self.calls)


class NothingKept(unittest.TestCase):
    def test_two_do_not_know_of_each_other(self):
        calls = joined([BEGIN, MOVER, TEXT, MOVES, BACK])
        told = answers(calls)
        answers(joined([BEGIN, put(2, "X" * 32 + "O" * 31 + "-")]))
        self.assertEqual(answers(calls), told)
        answers(joined([BEGIN, play(19), play(18)]))
        self.assertEqual(answers(calls), told)

    def test_the_same_list_twice(self):
        self.assertEqual(answers(HandedIn.calls), answers(HandedIn.calls))

    def test_a_changed_answer_changes_no_later_one(self):
        calls = joined([BEGIN, TEXT, MOVES])
        told = list(answers(calls))
        found = answers(calls)
        for place in range(len(found)):
            found[place] = 7
        self.assertEqual(answers(calls), told)

    def test_nothing_is_printed(self):
        out, err = io.StringIO(), io.StringIO()
        with contextlib.redirect_stdout(out), contextlib.redirect_stderr(err):
            answers(HandedIn.calls)
        self.assertEqual((out.getvalue(), err.getvalue()), ("", ""))


class TheModelItself(unittest.TestCase):
    """The tests lean on the model: here it's held to what the document says in so many words."""

    def test_beginning_and_first_move(self):
        model = Model()
        self.assertEqual(model.seen(), (BEGINNING, 1, [19, 26, 37, 44]))
        self.assertEqual((model.play(0), model.play(19), model.mover), (-1, 1, 2))
        self.assertEqual((model.back(), model.back(), model.board), (0, -1, BEGINNING))


if __name__ == "__main__":
    unittest.main()
