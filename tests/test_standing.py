"""Points 4 and 5: what is a standing of a beam, who refuses what is none, and the standing mirrored."""

import unittest

from beamtender.beam import Beam, as_standing, mirrored, under
from beamtender.errors import BadStanding
from beamtender.game import Play
from beamtender.layers import fewest, next_move
from beamtender.limits import least
from beamtender.looks import in_hand, keeps, loads, side, tilt
from beamtender.moves import moved, moves, refusal
from beamtender.texts import write_beam, write_standing
from helping import HUGE, BeamCase, is_standing, rows_of_places, some_beams, standings

ASKED = (as_standing, mirrored, tilt, side, keeps, loads, moves, write_standing, write_beam)
ASKED_WITH_A_MOVE = (refusal, moved)
ASKED_WITH_A_GOAL = (fewest, next_move, least)
MOVES = ((1, 0, 1), (1, 1, 1), (0, 0, 0), (6, 0, 1), (1, 0, 9), (-1, -HUGE, HUGE), (HUGE, HUGE, -HUGE))


class StandingCase(BeamCase):
    def taken(self, beam, places):
        for handed in (list(places), tuple(places)):
            with self.subTest(handed=handed):
                told = as_standing(beam, handed)
                self.assertIs(type(told), tuple)
                self.assertEqual(told, tuple(places))
                for ask in ASKED:
                    ask(beam, handed)

    def bad(self, beam, places):
        for handed in (list(places), tuple(places)):
            for ask in ASKED:
                with self.subTest(ask=ask.__name__, handed=handed):
                    self.refused(BadStanding, ask, beam, handed)
            # No weight's number, be it one of the beam's or none, comes ahead of the bad standing.
            for weight in (0, 1, 2, 6, -1, HUGE, -HUGE):
                with self.subTest(ask="in_hand", handed=handed, weight=weight):
                    self.refused(BadStanding, in_hand, beam, handed, weight)
            for ask in ASKED_WITH_A_MOVE:
                for move in MOVES:
                    with self.subTest(ask=ask.__name__, handed=handed, move=move):
                        self.refused(BadStanding, ask, beam, handed, move)
            self.bad_start_or_goal(under(beam, 0), handed)
            self.bad_in_a_play(under(beam, 0), handed)

    def bad_start_or_goal(self, beam, handed):
        # Under this limit the other one is past it, as a start and as a goal, unless it is the tray.
        tray, past = [0] * len(beam.hefts), [beam.notches] + [0] * (len(beam.hefts) - 1)
        for ask in ASKED_WITH_A_GOAL:
            for other in (tray, past, handed):
                with self.subTest(ask=ask.__name__, handed=handed, other=other):
                    self.refused(BadStanding, ask, beam, handed, other)
                    self.refused(BadStanding, ask, beam, other, handed)

    def bad_in_a_play(self, beam, handed):
        with self.subTest(ask="Play", handed=handed):
            self.refused(BadStanding, Play, beam, handed)
        play = Play(beam, [0] * len(beam.hefts))
        for ask in (play.fewest, play.next_move, play.least):
            with self.subTest(ask=ask.__name__, handed=handed):
                self.refused(BadStanding, ask, handed)


class Standings(StandingCase):
    def test_every_row_of_places_of_some_beams(self):
        for beam in some_beams():
            for places in rows_of_places(beam, beyond=1):
                if is_standing(beam, places):
                    self.assertEqual(as_standing(beam, places), places)
                    self.assertEqual(as_standing(beam, list(places)), places)
                else:
                    self.refused(BadStanding, as_standing, beam, places)

    def test_ordinary_standings(self):
        beam = Beam(3, 2, [5, 3, 8], 40)
        self.taken(beam, (0, 0, 0))
        self.taken(beam, (-3, 3, 1))
        self.taken(beam, (2, 2, -1))

    def test_arguments_by_name(self):
        beam = Beam(3, 2, [5, 3, 8], 40)
        self.assertEqual(as_standing(beam=beam, standing=[1, 0, -2]), (1, 0, -2))
        self.assertEqual(mirrored(beam=beam, standing=[1, 0, -2]), (-1, 0, 2))

    def test_how_many_places(self):
        for weights in range(4):
            beam = Beam(2, 3, [4] * weights, 40)
            self.taken(beam, [0] * weights)
            for many in (0, 1, 2, 3, 4, 5, 6, 399, 400):
                if many != weights:
                    self.bad(beam, [0] * many)

    def test_too_few_and_too_many_places_on_notches(self):
        beam = Beam(2, 3, [4, 5], 40)
        self.bad(beam, (1,))
        self.bad(beam, (1, -1, 2))

    def test_places_at_the_ends_and_beyond_them(self):
        for notches in (1, 2, 3, 4):
            beam = Beam(notches, 1, [4, 5], 400)
            for place in range(-notches, notches + 1):
                self.taken(beam, (place, 0))
                self.taken(beam, (0, place))
            for place in (notches + 1, -notches - 1, 5, -5, HUGE, -HUGE):
                self.bad(beam, (place, 0))
                self.bad(beam, (0, place))
                self.bad(beam, (place, place))

    def test_a_notch_up_to_its_room_and_past_it(self):
        for room in (1, 2, 3):
            beam = Beam(2, room, [1, 2, 3, 4], 400)
            for place in (-2, -1, 1, 2):
                self.taken(beam, [place] * room + [0] * (4 - room))
                self.taken(beam, [0] * (4 - room) + [place] * room)
                self.bad(beam, [place] * (room + 1) + [0] * (3 - room))
                self.bad(beam, [0] * (3 - room) + [place] * (room + 1))

    def test_room_is_asked_of_each_notch_apart(self):
        beam = Beam(1, 2, [1, 2, 3, 4, 5], 400)
        self.taken(beam, (1, -1, 1, -1, 0))
        self.bad(beam, (1, -1, 1, -1, 1))
        self.bad(beam, (-1, 1, -1, 1, -1))
        self.bad(beam, (1, 0, 1, 0, 1))

    def test_the_tray_has_room_for_all(self):
        for room in (1, 2, 3):
            for weights in range(6):
                self.taken(Beam(1, room, [7] * weights, 0), [0] * weights)

    def test_past_the_limit_is_still_a_standing(self):
        beam = Beam(4, 3, [20, 20, 20], 0)
        self.taken(beam, (4, 4, 4))
        self.taken(beam, (-4, -4, -4))
        self.assertEqual(as_standing(under(beam, 1), (4, 4, 3)), (4, 4, 3))

    def test_no_weights(self):
        beam = Beam(1, 1, [], 0)
        self.taken(beam, ())
        self.bad(beam, (0,))


class Mirrored(StandingCase):
    def test_ordinary_standings(self):
        beam = Beam(3, 2, [5, 3, 8], 40)
        self.assertEqual(mirrored(beam, (-3, 0, 1)), (3, 0, -1))
        self.assertEqual(mirrored(beam, [2, 2, -1]), (-2, -2, 1))
        self.assertEqual(mirrored(beam, [0, 0, 0]), (0, 0, 0))

    def test_no_weights(self):
        self.assertEqual(mirrored(Beam(2, 1, [], 0), []), ())

    def test_past_the_limit(self):
        self.assertEqual(mirrored(Beam(4, 1, [20], 0), [4]), (-4,))

    def test_every_standing_of_some_beams(self):
        for beam in some_beams():
            for standing in standings(beam):
                for handed in (standing, list(standing)):
                    told = mirrored(beam, handed)
                    self.assertIs(type(told), tuple)
                    self.assertEqual(told, tuple(-place for place in standing))
                    self.assertEqual(mirrored(beam, told), standing)


if __name__ == "__main__":
    unittest.main()
