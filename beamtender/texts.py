"""Standings, moves and beams written as text, and read back."""

from beamtender.beam import Beam, as_standing
from beamtender.errors import BadText

FIGURES = "0123456789"
MOST_FIGURES = 4


def write_standing(beam, standing):
    places = as_standing(beam, standing)
    if len(places) == 0:
        return "none"
    return " ".join([write_place(place) for place in places])


def read_standing(beam, text):
    return as_standing(beam, read_places(text))


def write_move(move):
    return " ".join([str(move[0]), write_place(move[1]), write_place(move[2])])


def read_move(text):
    words = text.split(" ")
    if len(words) != 3:
        raise BadText("a move has three words")
    return (read_number(words[0]), read_place(words[1]), read_place(words[2]))


def write_beam(beam, standing):
    places = as_standing(beam, standing)
    rows = ["notches " + str(beam.notches), "room " + str(beam.room), "limit " + str(beam.limit)]
    for heft, place in zip(beam.hefts, places):
        rows.append("weight " + str(heft) + " " + write_place(place))
    return "\n".join(rows)


def read_beam(text):
    rows = text.split("\n")
    if len(rows) < 3:
        raise BadText("the beam's text has too few rows")
    notches = read_number(words_behind("notches", rows[0], 1)[0])
    room = read_number(words_behind("room", rows[1], 1)[0])
    limit = read_number(words_behind("limit", rows[2], 1)[0])
    # Every row is read ahead of the beam being made: a bad text comes ahead of a bad beam.
    weights = [read_weight(row) for row in rows[3:]]
    beam = Beam(notches, room, [weight[0] for weight in weights], limit)
    return (beam, as_standing(beam, [weight[1] for weight in weights]))


def read_weight(row):
    words = words_behind("weight", row, 2)
    return (read_number(words[0]), read_place(words[1]))


def words_behind(front, row, many):
    words = row.split(" ")
    if words[0] != front or len(words) != many + 1:
        raise BadText("a row of the beam's text has other words than it may have")
    return words[1:]


def read_places(text):
    if text == "none":
        return []
    return [read_place(word) for word in text.split(" ")]


def write_place(place):
    if place == 0:
        return "tray"
    return str(place)


def read_place(text):
    if text == "tray":
        return 0
    left = text.startswith("-")
    size = read_number(text[1:] if left else text)
    if size == 0:
        raise BadText("the tray is not written as a number")
    return -size if left else size


def read_number(text):
    if not is_number(text):
        raise BadText("a word is no plain number")
    return int(text)


def is_number(text):
    if text.startswith("0"):
        return text == "0"
    if len(text) == 0 or len(text) > MOST_FIGURES:
        return False
    # Asked sign by sign, since int reads more than plain numbers.
    return all([sign in FIGURES for sign in text])
