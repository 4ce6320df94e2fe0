"""What the tests share: asking for a refusal's very class, many beams with all their rows of places, and a search.

What is counted here calls nothing of the program but Beam, so that the program can be held against it.
"""

import itertools
import unittest

from beamtender.beam import Beam

HUGE = 10 ** 30


class BeamCase(unittest.TestCase):
    def refused(self, error, call, *handed):
        with self.assertRaises(error) as caught:
            call(*handed)
        self.assertIs(type(caught.exception), error, handed)


def some_beams():
    told = [
        (1, 1, (), 0), (4, 3, [], 400),
        (1, 1, (7,), 6), (4, 2, [20], 79),
        (2, 1, (3, 5), 4), (3, 2, [1, 1], 2), (4, 1, (20, 19), 100),
        (2, 2, [2, 3, 4], 5), (3, 1, (6, 6, 1), 0), (4, 3, [1, 2, 3], 12),
        (2, 3, (1, 9, 9, 4), 20), (1, 3, [5, 4, 3, 2, 1], 3), (1, 2, (1, 1, 1, 1, 1), 1), (1, 1, (1, 2, 3, 4, 5), 2),
    ]
    return [Beam(notches, room, hefts, limit) for notches, room, hefts, limit in told]


def fields(beam):
    return beam.notches, beam.room, beam.hefts, beam.limit


def rows_of_places(beam, beyond=0):
    reach = beam.notches + beyond
    return itertools.product(range(-reach, reach + 1), repeat=len(beam.hefts))


def is_standing(beam, places):
    if len(places) != len(beam.hefts):
        return False
    held = {}
    for place in places:
        held[place] = held.get(place, 0) + 1
    held.pop(0, None)
    return all(abs(place) <= beam.notches and many <= beam.room for place, many in held.items())


def standings(beam):
    return [places for places in rows_of_places(beam) if is_standing(beam, places)]


def counted_tilt(beam, standing, left_out=None):
    total = 0
    for seat in range(len(standing)):
        if seat + 1 != left_out:
            total += beam.hefts[seat] * standing[seat]
    return total


def keeping(beam):
    return [standing for standing in standings(beam) if abs(counted_tilt(beam, standing)) <= beam.limit]


def faults(beam, standing, move):
    """The words of all that point 10 names and that is so, in its order: the first is the one to be told."""
    weight, taken, put = move
    known = 1 <= weight <= len(standing)
    found = []
    if not known or standing[weight - 1] != taken:
        found.append("no weight")
    if abs(put) > beam.notches:
        found.append("no place")
    if known:
        if standing[weight - 1] == put:
            found.append("same place")
        if put != 0 and len([place for place in standing if place == put]) >= beam.room:
            found.append("no room")
        held = counted_tilt(beam, standing, weight)
        if abs(held) > beam.limit:
            found.append("tips in hand")
        if abs(held + beam.hefts[weight - 1] * put) > beam.limit:
            found.append("tips behind")
    return found


def put_at(standing, weight, place):
    return tuple(place if seat + 1 == weight else lies for seat, lies in enumerate(standing))


def let_by(beam, standing):
    places = range(-beam.notches, beam.notches + 1)
    tried = [(weight, taken, put) for weight, taken in enumerate(standing, 1) for put in places]
    return [move for move in tried if not faults(beam, standing, move)]


def neighbours(beam):
    """For each standing of the beam those that are a move away."""
    return {
        standing: [put_at(standing, weight, put) for weight, taken, put in let_by(beam, standing)]
        for standing in standings(beam)
    }


def layers_from(near, start):
    layers = [[start]]
    held = {start}
    while layers[-1]:
        layer = {other for standing in layers[-1] for other in near[standing]} - held
        held |= layer
        layers.append(sorted(layer))
    return layers[:-1]


def walked(beam, start, row):
    """The standing behind a row of moves, or None where one of them is not let by."""
    standing = tuple(start)
    for move in row:
        if faults(beam, standing, move):
            return None
        standing = put_at(standing, move[0], move[2])
    return standing
