"""Beams, and the standings that are ones of a beam."""

from beamtender.errors import BadBeam, BadStanding

MOST_NOTCHES = 4
MOST_ROOM = 3
MOST_WEIGHTS = 5
MOST_HEFT = 20
MOST_LIMIT = 400
MOST_STANDINGS = 1000


class Beam:
    def __init__(self, notches, room, hefts, limit):
        check_bounds(notches, room, limit)
        check_hefts(hefts)
        check_standings(notches, len(hefts))
        self.notches = notches
        self.room = room
        self.hefts = tuple(hefts)
        self.limit = limit


def outside(number, low, high):
    return number < low or number > high


def check_bounds(notches, room, limit):
    if outside(notches, 1, MOST_NOTCHES):
        raise BadBeam("the notches on a side are too few or too many")
    if outside(room, 1, MOST_ROOM):
        raise BadBeam("the room of a notch is too small or too great")
    if outside(limit, 0, MOST_LIMIT):
        raise BadBeam("the limit is too small or too great")


def check_hefts(hefts):
    if len(hefts) > MOST_WEIGHTS:
        raise BadBeam("the weights are too many")
    for heft in hefts:
        if outside(heft, 1, MOST_HEFT):
            raise BadBeam("a heft is too small or too great")


def check_standings(notches, weights):
    many = 1
    for weight in range(weights):
        many = many * (2 * notches + 1)
    if many > MOST_STANDINGS:
        raise BadBeam("the weights are too many for so many notches")


def under(beam, limit):
    return Beam(beam.notches, beam.room, beam.hefts, limit)


def as_standing(beam, standing):
    places = tuple(standing)
    if len(places) != len(beam.hefts):
        raise BadStanding("the places are not as many as the weights")
    for place in places:
        if outside(place, -beam.notches, beam.notches):
            raise BadStanding("a place is not on the beam")
        # The tray, place 0, has room for all.
        if place != 0 and places.count(place) > beam.room:
            raise BadStanding("a notch holds more weights than it has room for")
    return places


def mirrored(beam, standing):
    return tuple([-place for place in as_standing(beam, standing)])
