"""Points 2 and 3: which beams are made, which are refused, and the beam under another limit."""

import unittest

from beamtender import beam as beams
from beamtender.beam import Beam, under
from beamtender.errors import BadBeam
from helping import HUGE, BeamCase, fields, some_beams


class Made(BeamCase):
    def made(self, notches, room, hefts, limit):
        for handed in (list(hefts), tuple(hefts)):
            with self.subTest(notches=notches, room=room, hefts=handed, limit=limit):
                beam = Beam(notches, room, handed, limit)
                self.assertIsInstance(beam, Beam)
                self.assertEqual(fields(beam), (notches, room, tuple(hefts), limit))
                self.assertIs(type(beam.hefts), tuple)
                for number in (beam.notches, beam.room, beam.limit) + beam.hefts:
                    self.assertIs(type(number), int)

    def bad(self, notches, room, hefts, limit):
        for handed in (list(hefts), tuple(hefts)):
            with self.subTest(notches=notches, room=room, hefts=handed, limit=limit):
                self.refused(BadBeam, Beam, notches, room, handed, limit)

    def test_the_bounds_are_told(self):
        told = (beams.MOST_NOTCHES, beams.MOST_ROOM, beams.MOST_WEIGHTS)
        self.assertEqual(told, (4, 3, 5))
        told = (beams.MOST_HEFT, beams.MOST_LIMIT, beams.MOST_STANDINGS)
        self.assertEqual(told, (20, 400, 1000))

    def test_arguments_by_name(self):
        beam = Beam(notches=2, room=3, hefts=[4, 5], limit=6)
        self.assertEqual(fields(beam), (2, 3, (4, 5), 6))
        self.assertEqual(fields(under(beam=beam, limit=7)), (2, 3, (4, 5), 7))

    def test_ordinary_beams(self):
        self.made(2, 2, (5, 3, 8), 10)
        self.made(3, 1, (20, 1, 7), 33)
        self.made(2, 3, (4, 4, 4, 4), 100)

    def test_hefts_keep_their_order_and_equal_ones_stay_two(self):
        self.made(2, 1, (9, 2, 9, 1), 5)
        self.made(1, 1, (3, 3), 5)

    def test_notches(self):
        for notches in (1, 2, 3, 4):
            self.made(notches, 2, (5,), 10)
            self.made(notches, 2, (), 10)
        for notches in (0, 5, -1, -4, 6, HUGE, -HUGE):
            self.bad(notches, 2, (5,), 10)
            self.bad(notches, 2, (), 10)

    def test_room(self):
        for room in (1, 2, 3):
            self.made(2, room, (5, 6), 10)
            self.made(2, room, (), 10)
        for room in (0, 4, -1, -3, 5, HUGE, -HUGE):
            self.bad(2, room, (5, 6), 10)
            self.bad(2, room, (), 10)

    def test_limit(self):
        for limit in (0, 1, 399, 400):
            self.made(2, 2, (5, 6), limit)
            self.made(2, 2, (), limit)
        for limit in (-1, 401, -400, HUGE, -HUGE):
            self.bad(2, 2, (5, 6), limit)
            self.bad(2, 2, (), limit)

    def test_hefts_in_every_seat(self):
        for seat in range(5):
            for heft in (1, 2, 19, 20):
                self.made(1, 2, [5] * seat + [heft] + [5] * (4 - seat), 10)
            for heft in (0, 21, -1, -20, HUGE, -HUGE):
                self.bad(1, 2, [5] * seat + [heft] + [5] * (4 - seat), 10)

    def test_one_bad_heft_alone(self):
        for heft in (0, 21, -1, HUGE, -HUGE):
            self.bad(2, 2, (heft,), 10)

    def test_how_many_weights(self):
        for weights in range(6):
            self.made(1, 1, [7] * weights, 10)
        # Three taken six times as a factor is 729, yet six weights are too many.
        for weights in (6, 7, 8, 399, 400):
            self.bad(1, 3, [7] * weights, 10)

    def test_how_many_weights_go_with_the_notches(self):
        for notches, most in ((1, 5), (2, 4), (3, 3), (4, 3)):
            for weights in range(most + 1):
                self.made(notches, 2, [20] * weights, 400)
            for weights in range(most + 1, 9):
                self.bad(notches, 3, [1] * weights, 400)

    def test_several_faults_at_once(self):
        self.bad(0, 0, (0,), -1)
        self.bad(5, 4, (21,) * 6, 401)
        self.bad(HUGE, HUGE, (HUGE,) * 400, HUGE)
        self.bad(-HUGE, -HUGE, (-HUGE,) * 400, -HUGE)


class Under(BeamCase):
    def test_the_same_with_that_limit(self):
        for beam in some_beams():
            for limit in (0, 1, beam.limit, 399, 400):
                with self.subTest(beam=fields(beam), limit=limit):
                    other = under(beam, limit)
                    self.assertIsInstance(other, Beam)
                    self.assertEqual(fields(other), (beam.notches, beam.room, beam.hefts, limit))
                    self.assertIs(type(other.hefts), tuple)

    def test_the_first_beam_stays(self):
        for beam in some_beams():
            ahead = fields(beam)
            for limit in (0, 17, 400):
                under(beam, limit)
                self.assertEqual(fields(beam), ahead)

    def test_limits_out_of_bounds(self):
        for beam in some_beams():
            ahead = fields(beam)
            for limit in (-1, 401, -400, HUGE, -HUGE):
                with self.subTest(beam=ahead, limit=limit):
                    self.refused(BadBeam, under, beam, limit)
                    self.assertEqual(fields(beam), ahead)


if __name__ == "__main__":
    unittest.main()
