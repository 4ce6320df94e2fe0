"""Looks at how a standing tips the beam and where its weights lie."""

from beamtender.beam import as_standing, outside
from beamtender.errors import NoWeight


def tilt(beam, standing):
    places = as_standing(beam, standing)
    return sum([heft * place for heft, place in zip(beam.hefts, places)])


def side(beam, standing):
    tipped = tilt(beam, standing)
    if tipped < 0:
        return "left"
    if tipped > 0:
        return "right"
    return "level"


def past(beam, tipped):
    return abs(tipped) > beam.limit


def keeps(beam, standing):
    return not past(beam, tilt(beam, standing))


def in_hand(beam, standing, weight):
    places = as_standing(beam, standing)
    if outside(weight, 1, len(places)):
        raise NoWeight("the beam has no weight of that number")
    return tilt(beam, places) - beam.hefts[weight - 1] * places[weight - 1]


def loads(beam, standing):
    places = as_standing(beam, standing)
    return [places.count(place) for place in range(-beam.notches, beam.notches + 1)]
