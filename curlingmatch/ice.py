"""Where stones lie, and what that means.

A stone is a tuple: its number, x, y (in millimetres from the tee).
"""

PLAY_X = 2230
PLAY_Y_BELOW = 1974
PLAY_Y_ABOVE = 6256
HOUSE = 1974
MIDDLE_LINE = 145
CLEAR = 288


def side_of(number, hammer):
    """The side that a stone of this number is of: the one that has the hammer delivers the odd ones."""
    if number % 2 == 1:
        return hammer
    return 1 - hammer


def tee_square(stone):
    """The square of a stone's distance from the tee."""
    return stone[1] * stone[1] + stone[2] * stone[2]


def in_play(stone):
    return abs(stone[1]) <= PLAY_X and -PLAY_Y_BELOW <= stone[2] <= PLAY_Y_ABOVE


def in_house(stone):
    return tee_square(stone) <= HOUSE * HOUSE


def is_guard(stone):
    return stone[2] > 0 and not in_house(stone)


def touches_middle_line(stone):
    return abs(stone[1]) <= MIDDLE_LINE


def lie_clear(one, other):
    across = one[1] - other[1]
    up = one[2] - other[2]
    return across * across + up * up >= CLEAR * CLEAR


def all_lie_clear(stones):
    for place, one in enumerate(stones):
        for other in stones[:place]:
            if not lie_clear(one, other):
                return False
    return True


def house_squares(stones, hammer, side):
    """How far one side's stones in the house are from the tee, as squares, nearest first."""
    return sorted([tee_square(stone) for stone in stones if in_house(stone) and side_of(stone[0], hammer) == side])


def count_nearer(own, others):
    """How many of a side's squares are below all of the other's."""
    if not others:
        return len(own)
    return len([square for square in own if square < others[0]])


def end_points(stones, hammer):
    """What an end counts as the stones lie: side 0's points, side 1's.

    Whose nearest isn't the nearest of all has none below the other's, and so has
    no points; where both nearest are as near, neither has.
    """
    squares = [house_squares(stones, hammer, 0), house_squares(stones, hammer, 1)]
    return count_nearer(squares[0], squares[1]), count_nearer(squares[1], squares[0])
