"""Questions as rows of text, each answered with a text, at one play."""

from beamtender.errors import BadText, BeamError
from beamtender.game import Play
from beamtender.looks import side, tilt
from beamtender.moves import moves
from beamtender.texts import read_beam, read_move, read_standing, write_move, write_standing


def answers(text, rows):
    placed = read_beam(text)
    play = Play(placed[0], placed[1])
    told = []
    for row in rows:
        told.append(answer(play, row))
    return told


def answer(play, row):
    try:
        return answer_row(play, row)
    except BeamError as e:
        return "refused: " + e.word


def answer_row(play, row):
    if row == "look":
        return tell_tilt(play)
    if row == "show":
        return write_standing(play.beam, play.standing)
    if row == "moves":
        return tell_moves(moves(play.beam, play.standing))
    if row == "back":
        return write_move(play.back())
    parts = row.partition(" ")
    return answer_words(play, parts[0], parts[2])


def answer_words(play, word, rest):
    if word == "move":
        play.move(read_move(rest))
        return tell_tilt(play)
    if word == "fewest":
        return tell_way(play.fewest(read_standing(play.beam, rest)))
    if word == "next":
        return tell_next(play.next_move(read_standing(play.beam, rest)))
    if word == "least":
        return tell_least(play.least(read_standing(play.beam, rest)))
    raise BadText("the row is no question")


def tell_tilt(play):
    return "tilt " + str(tilt(play.beam, play.standing)) + " " + side(play.beam, play.standing)


def tell_moves(row):
    counted = str(len(row)) + " moves"
    if len(row) == 0:
        return counted
    return counted + ": " + ", ".join([write_move(move) for move in row])


def tell_way(way):
    if not way.reached:
        return "no way: " + str(len(way.shut)) + " standings"
    return tell_moves(way.row)


def tell_next(move):
    if move is None:
        return "there"
    return write_move(move)


def tell_least(low):
    return "limit " + str(low.limit) + ": " + tell_moves(low.row)
