"""What the tests share: asking for a refusal's very class, many beams with all their rows of places, a search, texts.

What is counted here calls nothing of the program but Beam, so that the program can be held against it.
"""

import itertools
import re
import unittest

from beamtender.beam import Beam

HUGE = 10 ** 30

# Words as texts hold them: plain numbers and places with what they tell, and words that are none.
NUMBERS = {"0": 0, "1": 1, "5": 5, "10": 10, "99": 99, "100": 100, "1000": 1000, "9090": 9090, "9999": 9999}
# Some of these Python reads as numbers, or as numbers with something cut off: none is a plain number or a place.
NEITHER = (
    "10000", "99999", "00", "01", "007", "0001", "00001", "+1", "+0", "-0", "-00", "-01", "-007", "--1", "+-1", "-+1",
    "- 1", "-", "--", "+", "", "1a", "a1", "a", "1-", "1-1", "1.0", "1.", "1_0", "1e1", "0x1", "1,", "1:", "'1'", "(1)",
    "Tray", "TRAY", "tra", "trays", "tray1", "1tray", "-tray", "+tray", "none", "left", " 1", "1 ", "\n1", "1\n", " ",
    "\n", "9" * 30, "1" * 399,
)
NO_NUMBERS = NEITHER + ("-1", "-5", "-9999", "-10000", "tray")
PLACES = {"tray": 0}
PLACES.update({text: number for text, number in NUMBERS.items() if number})
PLACES.update({"-" + text: -number for text, number in NUMBERS.items() if number})
NO_PLACES = NEITHER + ("0", "-10000")


class BeamCase(unittest.TestCase):
    def refused(self, error, call, *handed):
        with self.assertRaises(error) as caught:
            call(*handed)
        self.assertIs(type(caught.exception), error, handed)


def some_beams():
    told = [
        (1, 1, (), 0), (4, 3, [], 400),
        (1, 1, (7,), 6), (4, 2, [20], 79),
        (2, 1, (3, 5), 4), (3, 2, [1, 1], 2), (4, 1, (20, 19), 100),
        (2, 2, [2, 3, 4], 5), (3, 1, (6, 6, 1), 0), (4, 3, [1, 2, 3], 12),
        (2, 3, (1, 9, 9, 4), 20), (1, 3, [5, 4, 3, 2, 1], 3), (1, 2, (1, 1, 1, 1, 1), 1), (1, 1, (1, 2, 3, 4, 5), 2),
    ]
    return [Beam(notches, room, hefts, limit) for notches, room, hefts, limit in told]


def fields(beam):
    return beam.notches, beam.room, beam.hefts, beam.limit


def rows_of_places(beam, beyond=0):
    reach = beam.notches + beyond
    return itertools.product(range(-reach, reach + 1), repeat=len(beam.hefts))


def is_standing(beam, places):
    if len(places) != len(beam.hefts):
        return False
    held = {}
    for place in places:
        held[place] = held.get(place, 0) + 1
    held.pop(0, None)
    return all(abs(place) <= beam.notches and many <= beam.room for place, many in held.items())


def standings(beam):
    return [places for places in rows_of_places(beam) if is_standing(beam, places)]


def counted_tilt(beam, standing, left_out=None):
    total = 0
    for seat in range(len(standing)):
        if seat + 1 != left_out:
            total += beam.hefts[seat] * standing[seat]
    return total


def keeping(beam):
    return [standing for standing in standings(beam) if abs(counted_tilt(beam, standing)) <= beam.limit]


def faults(beam, standing, move):
    """The words of all that point 10 names and that is so, in its order: the first is the one to be told."""
    weight, taken, put = move
    known = 1 <= weight <= len(standing)
    found = []
    if not known or standing[weight - 1] != taken:
        found.append("no weight")
    if abs(put) > beam.notches:
        found.append("no place")
    if known:
        if standing[weight - 1] == put:
            found.append("same place")
        if put != 0 and len([place for place in standing if place == put]) >= beam.room:
            found.append("no room")
        held = counted_tilt(beam, standing, weight)
        if abs(held) > beam.limit:
            found.append("tips in hand")
        if abs(held + beam.hefts[weight - 1] * put) > beam.limit:
            found.append("tips behind")
    return found


def put_at(standing, weight, place):
    return tuple(place if seat + 1 == weight else lies for seat, lies in enumerate(standing))


def let_by(beam, standing):
    places = range(-beam.notches, beam.notches + 1)
    tried = [(weight, taken, put) for weight, taken in enumerate(standing, 1) for put in places]
    return [move for move in tried if not faults(beam, standing, move)]


def neighbours(beam):
    """For each standing of the beam those that are a move away."""
    return {
        standing: [put_at(standing, weight, put) for weight, taken, put in let_by(beam, standing)]
        for standing in standings(beam)
    }


def layers_from(near, start):
    layers = [[start]]
    held = {start}
    while layers[-1]:
        layer = {other for standing in layers[-1] for other in near[standing]} - held
        held |= layer
        layers.append(sorted(layer))
    return layers[:-1]


def walked(beam, start, row):
    """The standing behind a row of moves, or None where one of them is not let by."""
    standing = tuple(start)
    for move in row:
        if faults(beam, standing, move):
            return None
        standing = put_at(standing, move[0], move[2])
    return standing


def again_in(row):
    weights = [move[0] for move in row]
    return sorted({weight for weight in weights if weights.count(weight) > 1})


def place_text(place):
    return "tray" if place == 0 else f"{place}"


def standing_text(standing):
    return " ".join(place_text(place) for place in standing) or "none"


def move_text(move):
    return f"{move[0]} {place_text(move[1])} {place_text(move[2])}"


def beam_text(beam, standing):
    weights = "".join(f"\nweight {heft} {place_text(place)}" for heft, place in zip(beam.hefts, standing))
    return f"notches {beam.notches}\nroom {beam.room}\nlimit {beam.limit}" + weights


def row_text(row):
    return f"{len(row)} moves" + (": " if row else "") + ", ".join(move_text(move) for move in row)


def tilt_text(beam, standing):
    tipped = counted_tilt(beam, standing)
    return f"tilt {tipped} " + ("left" if tipped < 0 else "right" if tipped > 0 else "level")


def row_in(text):
    """The row of moves that the text tells, or None where it is not written as a row of moves is."""
    moves = [(int(weight), int(taken.replace("tray", "0")), int(put.replace("tray", "0")))
             for weight, taken, put in re.findall(r"(\d+) (tray|-?\d+) (tray|-?\d+)", text)]
    return moves if row_text(moves) == text else None
