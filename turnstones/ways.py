"""In how many ways a game can go on.

A level holds stones that are reached by the same number of moves: the squares of the one who is to move next, if that
one can, and those of the other, both with the number of ways that lead there. Whether it is the first or the second
who is to move next makes no difference to how many ways there are. The same stones are reached by many orders of
moves, and are gone on from once, for all of those that the level has met.

There may be far more positions than can be kept. So a level that is full is counted to the last move before anything
else is reached, and an empty one takes its place: no more is kept at one time than one level for each move.
"""

from turnstones.position import SECOND
from turnstones.squares import listed, size, squares_to_play, stones_turned

MOST_MOVES = 9
# A level with so many entries is full. It is looked at when all moves of a position are made, so it may hold some more,
# but fewer than 64. The same stones are met again in more levels the fewer a level holds, and that takes time.
FULL = 16384


def behind_moves(own, other, choices):
    """What is reached by each of the moves of the one whose stones come first; then the other is to move next."""
    found = []
    for square in listed(choices):
        stone = 1 << square
        turned = stones_turned(stone, own, other)
        found.append((other ^ turned, own | turned | stone))
    return found


def all_behind(own, other):
    """What is reached by each of the moves there are; where the game is over, that stays."""
    choices = squares_to_play(own, other)
    if choices != 0:
        return behind_moves(own, other, choices)
    choices = squares_to_play(other, own)
    if choices != 0:
        return behind_moves(other, own, choices)
    return [(own, other)]


def ways_by_one_move(own, other):
    """In how many ways it goes on by one move: one, by no move, if the game is over."""
    choices = squares_to_play(own, other)
    if choices == 0:
        choices = squares_to_play(other, own)
    return max(size(choices), 1)


def ways_by_last_move(level):
    """In how many ways the level goes on by one move, which need not be made to be counted."""
    total = 0
    for stones, ways in level.items():
        total = total + ways * ways_by_one_move(stones[0], stones[1])
    return total


def ways_from(level, moves):
    """In how many ways the level goes on for so many moves, one at least, or to the game's end."""
    if moves == 1:
        return ways_by_last_move(level)
    total = 0
    reached = {}
    for stones, ways in level.items():
        for behind in all_behind(stones[0], stones[1]):
            reached[behind] = reached.get(behind, 0) + ways
        if len(reached) >= FULL:
            total = total + ways_from(reached, moves - 1)
            reached = {}
    return total + ways_from(reached, moves - 1)


def stones_now(position):
    """The squares of the one who moves, and those of the other."""
    if position.mover == SECOND:
        return (position.second, position.first)
    return (position.first, position.second)


def count_ways(position, depth):
    """In how many ways it can go on for depth moves, or to the game's end; -1 if depth isn't 0 to 9."""
    if depth < 0 or depth > MOST_MOVES:
        return -1
    if depth == 0:
        return 1
    return ways_from({stones_now(position): 1}, depth)
