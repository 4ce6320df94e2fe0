"""Moves: which are let by at a standing, by what the others are refused, and the standing behind a move."""

from beamtender.beam import as_standing, outside
from beamtender.errors import BeamError, NoPlace, NoRoom, NoWeight, SamePlace, TipsBehind, TipsInHand
from beamtender.looks import in_hand, past


def refusal(beam, standing, move):
    # A bad standing is no word to tell, so it is asked for outside the try.
    places = as_standing(beam, standing)
    try:
        check_move(beam, places, move[0], move[1], move[2])
    except BeamError as e:
        return e.word
    return None


def moved(beam, standing, move):
    places = as_standing(beam, standing)
    check_move(beam, places, move[0], move[1], move[2])
    return behind(places, move)


def moves(beam, standing):
    places = as_standing(beam, standing)
    told = []
    for weight in range(1, len(places) + 1):
        told.extend([(weight, places[weight - 1], put) for put in puts(beam, places, weight)])
    return told


def turned(move):
    return (move[0], move[2], move[1])


def behind(places, move):
    return places[:move[0] - 1] + (move[2],) + places[move[0]:]


def full(beam, places, place):
    # The tray, place 0, has room for all.
    return place != 0 and places.count(place) >= beam.room


def check_move(beam, places, weight, taken, put):
    # The order of the checks is promised: the first that fails is the one that is told.
    check_weight(places, weight, taken)
    check_put(beam, places, taken, put)
    check_tilts(beam, in_hand(beam, places, weight), beam.hefts[weight - 1] * put)


def check_weight(places, weight, taken):
    if outside(weight, 1, len(places)):
        raise NoWeight("the beam has no weight of that number")
    if places[weight - 1] != taken:
        raise NoWeight("the weight does not lie where it is to be taken from")


def check_put(beam, places, taken, put):
    if outside(put, -beam.notches, beam.notches):
        raise NoPlace("the beam has no place of that number")
    if put == taken:
        raise SamePlace("the weight lies there already")
    if full(beam, places, put):
        raise NoRoom("the notch holds as many weights as it has room for")


def check_tilts(beam, held, added):
    if past(beam, held):
        raise TipsInHand("the beam tips past the limit with the weight in the hand")
    if past(beam, held + added):
        raise TipsBehind("the beam tips past the limit behind the move")


def puts(beam, places, weight):
    # A search asks this at every standing: so what is the same for all places is counted once, not place by place.
    held = in_hand(beam, places, weight)
    if past(beam, held):
        return []
    lies = places[weight - 1]
    heft = beam.hefts[weight - 1]
    return [
        put for put in range(-beam.notches, beam.notches + 1)
        if put != lies and not full(beam, places, put) and not past(beam, held + heft * put)
    ]
