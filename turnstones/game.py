"""The calls on a game, handed in as one list of whole numbers, and the list of their answers."""

from turnstones.board import board_text
from turnstones.position import moves
from turnstones.session import Session
from turnstones.squares import size

BEGIN = 1
PUT = 2
TEXT = 3
MOVER = 4
MOVES = 5
PLAY = 6
BACK = 7


class UnknownCall(Exception):
    """A call's number is none of those above."""


class Call:
    """A call's number, the whole numbers and the lists that it has, and the place behind it."""

    def __init__(self, number, numbers, texts, end):
        self.number = number
        self.numbers = numbers
        self.texts = texts
        self.end = end


def read_call(calls, start):
    """The call that begins at the place start."""
    place = start + 2 + calls[start + 1]
    numbers = calls[start + 2:place]
    lists_left = calls[place]
    place = place + 1
    texts = []
    while lists_left > 0:
        end = place + 1 + calls[place]
        texts.append(calls[place + 1:end])
        place = end
        lists_left = lists_left - 1
    return Call(calls[start], numbers, texts, place)


def answer(session, call):
    """The numbers that the call answers."""
    if call.number == BEGIN:
        return [session.begin()]
    if call.number == PUT:
        return [session.put(call.numbers[0], call.texts[0])]
    if call.number == TEXT:
        return [0] + board_text(session.position)
    if call.number == MOVER:
        return [session.position.mover]
    if call.number == MOVES:
        squares = moves(session.position)
        return [size(squares), squares]
    if call.number == PLAY:
        return [session.play(call.numbers[0])]
    if call.number == BACK:
        return [session.back()]
    raise UnknownCall("no call has this number")


def answers(calls):
    """For each call in the list, in order: how many numbers are answered, then these."""
    session = Session()
    given = []
    place = 0
    while place < len(calls):
        call = read_call(calls, place)
        numbers = answer(session, call)
        given.append(len(numbers))
        given.extend(numbers)
        place = call.end
    return given
