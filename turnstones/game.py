"""The calls on a game, handed in as one list of whole numbers, and the list of their answers."""

from turnstones.board import board_text, form_text
from turnstones.outcome import best_square, comes_to
from turnstones.position import held
from turnstones.session import Session
from turnstones.squares import size
from turnstones.ways import count_ways

BEGIN = 1
PUT = 2
TEXT = 3
MOVER = 4
MOVES = 5
PLAY = 6
BACK = 7
GAMES = 8
VALUE = 9
BEST = 10
RECORD = 11
FORM = 12
COUNT = 13


class UnknownCall(Exception):
    """A call's number is none of those above."""


class Call:
    """A call's number, the whole numbers and the lists that it has, and the place behind it."""

    def __init__(self, number, numbers, texts, end):
        self.number = number
        self.numbers = numbers
        self.texts = texts
        self.end = end


def read_call(calls, start):
    """The call that begins at the place start."""
    place = start + 2 + calls[start + 1]
    numbers = calls[start + 2:place]
    lists_left = calls[place]
    place = place + 1
    texts = []
    while lists_left > 0:
        end = place + 1 + calls[place]
        texts.append(calls[place + 1:end])
        place = end
        lists_left = lists_left - 1
    return Call(calls[start], numbers, texts, place)


def answer(session, call):
    """The numbers that the call answers."""
    if call.number == BEGIN:
        return [session.begin()]
    if call.number == PUT:
        return [session.put(call.numbers[0], call.texts[0])]
    if call.number == TEXT:
        return [0] + board_text(session.position)
    if call.number == MOVER:
        return [session.position.mover]
    if call.number == MOVES:
        return [size(session.position.choices), session.position.choices]
    if call.number == PLAY:
        return [session.play(call.numbers[0])]
    if call.number == BACK:
        return [session.back()]
    if call.number == RECORD:
        return [session.record(call.numbers[0], call.texts[0])]
    return answer_of_reckoning(session.position, call)


def answer_of_reckoning(position, call):
    """The numbers that a call answers which is about the position alone, and reckons with it."""
    if call.number == GAMES:
        return [count_ways(position, call.numbers[0])]
    if call.number == VALUE:
        return [comes_to(position)]
    if call.number == BEST:
        return [best_square(position)]
    if call.number == FORM:
        return [0] + form_text(position)
    if call.number == COUNT:
        return [held(position, call.numbers[0])]
    raise UnknownCall("no call has this number")


def answers(calls):
    """For each call in the list, in order: how many numbers are answered, then these."""
    session = Session()
    given = []
    place = 0
    while place < len(calls):
        call = read_call(calls, place)
        numbers = answer(session, call)
        given.append(len(numbers))
        given.extend(numbers)
        place = call.end
    return given
