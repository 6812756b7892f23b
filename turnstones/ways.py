"""In how many ways a game can go on.

A level holds all that is reached by the same number of moves: the squares of the first and of the second and who is
to move next, if that one can, each with the number of ways that lead there. The same stones are reached by many
orders of moves, and are gone on from once, for all of them.
"""

from turnstones.position import settled, stones_behind, turned_by
from turnstones.squares import listed, size

MOST_MOVES = 9


def all_behind(first, second, player):
    """What is reached by each of the moves; where the game is over, that stays."""
    position = settled(first, second, player)
    if position.choices == 0:
        return [(first, second, player)]
    return [stones_behind(position, square, turned_by(position, square)) for square in listed(position.choices)]


def level_behind(level):
    """The level one move further."""
    found = {}
    for stones, ways in level.items():
        for reached in all_behind(stones[0], stones[1], stones[2]):
            found[reached] = found.get(reached, 0) + ways
    return found


def ways_by_one_move(first, second, player):
    """In how many ways it goes on by one move: one, by no move, if the game is over."""
    return max(size(settled(first, second, player).choices), 1)


def count_ways(position, depth):
    """In how many ways it can go on for depth moves, or to the game's end; -1 if depth isn't 0 to 9."""
    if depth < 0 or depth > MOST_MOVES:
        return -1
    if depth == 0 or position.choices == 0:
        return 1
    level = {(position.first, position.second, position.mover): 1}
    for step in range(depth - 1):
        level = level_behind(level)
    # The last moves need not be made to be counted.
    return sum([ways * ways_by_one_move(stones[0], stones[1], stones[2]) for stones, ways in level.items()])
