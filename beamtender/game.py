"""A play: one standing at hand, changed move by move, and the trail of its moves."""

from beamtender.beam import as_standing
from beamtender.errors import NothingBack, PlayFull, StartPast
from beamtender.layers import fewest, next_move
from beamtender.limits import least
from beamtender.looks import keeps
from beamtender.moves import behind, moved, turned

MOST_MOVES = 300


class Play:
    def __init__(self, beam, start):
        first = as_standing(beam, start)
        if not keeps(beam, first):
            raise StartPast("the start is past the limit")
        self.beam = beam
        self.start = first
        self.standing = first
        self.made = []

    def move(self, move):
        if len(self.made) >= MOST_MOVES:
            raise PlayFull("the trail has as many moves as it may have")
        # The trail is changed last, so that a refusal leaves the play as it was.
        self.standing = moved(self.beam, self.standing, move)
        self.made.append(tuple(move))
        return self.standing

    def back(self):
        if len(self.made) == 0:
            raise NothingBack("no move is left to take back")
        last = self.made.pop()
        self.standing = behind(self.standing, turned(last))
        return last

    def trail(self):
        # A copy: what the caller does to it is not to change the play.
        return list(self.made)

    def fewest(self, goal):
        return fewest(self.beam, self.standing, goal)

    def next_move(self, goal):
        return next_move(self.beam, self.standing, goal)

    def least(self, goal):
        return least(self.beam, self.standing, goal)
