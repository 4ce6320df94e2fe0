"""What the tests share: asking for a refusal's very class, and many beams with all their rows of places."""

import itertools
import unittest

from beamtender.beam import Beam

HUGE = 10 ** 30


class BeamCase(unittest.TestCase):
    def refused(self, error, call, *handed):
        with self.assertRaises(error) as caught:
            call(*handed)
        self.assertIs(type(caught.exception), error, handed)


def some_beams():
    told = [
        (1, 1, (), 0), (4, 3, [], 400),
        (1, 1, (7,), 6), (4, 2, [20], 79),
        (2, 1, (3, 5), 4), (3, 2, [1, 1], 2), (4, 1, (20, 19), 100),
        (2, 2, [2, 3, 4], 5), (3, 1, (6, 6, 1), 0), (4, 3, [1, 2, 3], 12),
        (2, 3, (1, 9, 9, 4), 20), (1, 3, [5, 4, 3, 2, 1], 3), (1, 2, (1, 1, 1, 1, 1), 1), (1, 1, (1, 2, 3, 4, 5), 2),
    ]
    return [Beam(notches, room, hefts, limit) for notches, room, hefts, limit in told]


def fields(beam):
    return beam.notches, beam.room, beam.hefts, beam.limit


def rows_of_places(beam, beyond=0):
    reach = beam.notches + beyond
    return itertools.product(range(-reach, reach + 1), repeat=len(beam.hefts))


def is_standing(beam, places):
    if len(places) != len(beam.hefts):
        return False
    held = {}
    for place in places:
        held[place] = held.get(place, 0) + 1
    held.pop(0, None)
    return all(abs(place) <= beam.notches and many <= beam.room for place, many in held.items())


def standings(beam):
    return [places for places in rows_of_places(beam) if is_standing(beam, places)]
