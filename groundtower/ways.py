"""Pieces that lie near each other, and the ways over them."""

from groundtower.limits import LONGEST_WAY, MOST_PAIRS, MOST_PIECES


# near has two numbers for each pair, pair behind pair.
def is_ground(n, near):
    if n < 1 or n > MOST_PIECES or len(near) > 2 * MOST_PAIRS:
        return False
    return all([piece < n for piece in near])


# For each piece a dict, not a list, of the pieces near it: a long way asks it often.
def neighbours(n, near):
    beside = [{} for piece in range(n)]
    for place in range(0, len(near), 2):
        one = near[place]
        other = near[place + 1]
        # A pair is told once, but the two lie near each other both ways.
        beside[one][other] = True
        beside[other][one] = True
    return beside


def is_way(beside, start, way):
    if len(way) < 1 or len(way) > LONGEST_WAY:
        return False
    if start in way or len(set(way)) != len(way):
        return False
    before = start
    for piece in way:
        if piece not in beside[before]:
            return False
        before = piece
    return True
