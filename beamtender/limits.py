"""The least limit under which a goal can be come to from a start."""

from beamtender.beam import MOST_LIMIT, as_standing, under
from beamtender.layers import fewest
from beamtender.looks import in_hand, tilt
from beamtender.moves import behind, moves


class Least:
    def __init__(self, limit, row, shut):
        self.limit = limit
        self.row = row
        self.shut = shut


def least(beam, start, goal):
    first = as_standing(beam, start)
    last = as_standing(beam, goal)
    limit = max(abs(tilt(beam, first)), abs(tilt(beam, last)))
    shut = []
    way = fewest(under(beam, limit), first, last)
    while not way.reached:
        # No limit below the one at which a move leaves the shut set can do: under all of them the set stays the same.
        # So the last shut set is also the one under the least limit less 1.
        shut = way.shut
        limit = limit_to_leave(beam, shut)
        way = fewest(under(beam, limit), first, last)
    return Least(limit, way.row, shut)


def limit_to_leave(beam, shut):
    # Under the greatest limit no standing tips too far, so there a move leaves any set that lacks a standing.
    free = under(beam, MOST_LIMIT)
    inside = dict([(standing, True) for standing in shut])
    limits = []
    for standing in shut:
        for move in moves(free, standing):
            if behind(standing, move) not in inside:
                limits.append(limit_to_move(beam, standing, move))
    return min(limits)


def limit_to_move(beam, standing, move):
    return max(abs(in_hand(beam, standing, move[0])), abs(tilt(beam, behind(standing, move))))
