"""The fewest moves from a start to a goal, with the layers of standings that show that no fewer lead there."""

from beamtender.beam import as_standing
from beamtender.errors import GoalPast, NoWay, StartPast
from beamtender.looks import keeps
from beamtender.moves import behind, moves, turned


class Way:
    def __init__(self, reached, many, row, layers, again, shut):
        self.reached = reached
        self.many = many
        self.row = row
        self.layers = layers
        self.again = again
        self.shut = shut


def fewest(beam, start, goal):
    # Both are asked to be standings ahead of either's tilt.
    first = as_standing(beam, start)
    last = as_standing(beam, goal)
    if not keeps(beam, first):
        raise StartPast("the start is past the limit")
    if not keeps(beam, last):
        raise GoalPast("the goal is past the limit")
    return search(beam, first, last)


def next_move(beam, start, goal):
    way = fewest(beam, start, goal)
    if not way.reached:
        raise NoWay("the goal can't be come to from the start")
    if way.many == 0:
        return None
    return way.row[0]


def search(beam, start, goal):
    layers = [[start]]
    # For each standing that was come to, the move that first led there; none led to the start.
    led = {start: None}
    while goal not in led:
        layer = next_layer(beam, layers[-1], led)
        if len(layer) == 0:
            return Way(False, None, [], layers, [], sorted(led))
        layers.append(layer)
    row = row_to(goal, led)
    return Way(True, len(row), row, layers, moved_again(row), [])


def next_layer(beam, layer, led):
    # What is found is noted in led at once, so that no standing is found twice.
    found = []
    for standing in layer:
        for move in moves(beam, standing):
            reached = behind(standing, move)
            if reached not in led:
                led[reached] = move
                found.append(reached)
    return sorted(found)


def row_to(goal, led):
    row = []
    standing = goal
    while led[standing] is not None:
        row.append(led[standing])
        standing = behind(standing, turned(led[standing]))
    row.reverse()
    return row


def moved_again(row):
    weights = [move[0] for move in row]
    return sorted(set([weight for weight in weights if weights.count(weight) > 1]))
