"""Points 6, 7 and 8: tilt, side, keeping a limit, the tilt with a weight in the hand, the loads."""

import unittest

from beamtender.beam import Beam, mirrored, under
from beamtender.errors import BadStanding, NoWeight
from beamtender.looks import in_hand, keeps, loads, side, tilt
from helping import HUGE, BeamCase, counted_tilt, some_beams, standings


class Tilt(BeamCase):
    def test_ordinary_standings(self):
        beam = Beam(3, 2, [5, 3, 8], 10)
        for standing, told in (
            ((0, 0, 0), 0), ((1, 0, 0), 5), ((0, -3, 0), -9), ((3, -2, 1), 17), ((-3, 2, -1), -17), ((-1, -1, 1), 0),
            ((2, 2, -2), 0), ((3, 3, 2), 40),
        ):
            with self.subTest(standing):
                self.assertEqual(tilt(beam, standing), told)
                self.assertEqual(tilt(beam, list(standing)), told)

    def test_arguments_by_name(self):
        beam = Beam(3, 2, [5, 3, 8], 17)
        standing = [3, -2, 1]
        self.assertEqual(tilt(beam=beam, standing=standing), 17)
        self.assertEqual(side(beam=beam, standing=standing), "right")
        self.assertIs(keeps(beam=beam, standing=standing), True)
        self.assertEqual(in_hand(beam=beam, standing=standing, weight=2), 23)
        self.assertEqual(loads(beam=beam, standing=standing), [0, 1, 0, 0, 1, 0, 1])

    def test_the_widest_tilts(self):
        beam = Beam(4, 3, [20, 20, 20], 400)
        self.assertEqual(tilt(beam, [4, 4, 4]), 240)
        self.assertEqual(tilt(beam, [-4, -4, -4]), -240)

    def test_no_weights(self):
        beam = Beam(2, 1, [], 0)
        self.assertEqual(tilt(beam, ()), 0)
        self.assertEqual(side(beam, []), "level")
        self.assertIs(keeps(beam, ()), True)

    def test_every_standing_of_some_beams(self):
        for beam in some_beams():
            for standing in standings(beam):
                for handed in (standing, list(standing)):
                    told = tilt(beam, handed)
                    self.assertIs(type(told), int)
                    self.assertEqual(told, counted_tilt(beam, standing))
                    self.assertEqual(tilt(beam, mirrored(beam, handed)), -told)


class Side(BeamCase):
    def test_just_beside_level(self):
        beam = Beam(1, 1, [4, 5], 400)
        self.assertEqual(side(beam, (1, -1)), "left")
        self.assertEqual(side(beam, [1, -1]), "left")
        self.assertEqual(side(beam, (-1, 1)), "right")
        self.assertEqual(side(beam, [0, 0]), "level")

    def test_level_with_weights_on_both_sides(self):
        beam = Beam(2, 1, [4, 2], 0)
        self.assertEqual(side(beam, (1, -2)), "level")
        self.assertEqual(side(beam, (-1, 2)), "level")

    def test_the_limit_plays_no_part(self):
        for limit in (0, 3, 400):
            beam = Beam(2, 1, [3], limit)
            self.assertEqual([side(beam, [place]) for place in (-2, -1, 0, 1, 2)],
                             ["left", "left", "level", "right", "right"])

    def test_every_standing_of_some_beams(self):
        for beam in some_beams():
            for standing in standings(beam):
                counted = counted_tilt(beam, standing)
                expected = "left" if counted < 0 else "right" if counted > 0 else "level"
                self.assertEqual(side(beam, standing), expected)
                self.assertEqual(side(beam, list(standing)), expected)


class Keeps(BeamCase):
    def test_a_size_of_the_limit_and_one_more(self):
        for place in (1, -1):
            for size in range(1, 21):
                for handed in ([place], (place,)):
                    with self.subTest(handed=handed, size=size):
                        self.assertIs(keeps(Beam(1, 1, [size], size + 1), handed), True)
                        self.assertIs(keeps(Beam(1, 1, [size], size), handed), True)
                        self.assertIs(keeps(Beam(1, 1, [size], size - 1), handed), False)

    def test_limit_nought(self):
        beam = Beam(1, 1, [1, 1], 0)
        self.assertIs(keeps(beam, (0, 0)), True)
        self.assertIs(keeps(beam, (1, -1)), True)
        self.assertIs(keeps(beam, (1, 0)), False)
        self.assertIs(keeps(beam, (0, -1)), False)

    def test_the_widest_limit(self):
        beam = Beam(4, 3, [20, 20, 20], 400)
        self.assertIs(keeps(beam, (4, 4, 4)), True)
        self.assertIs(keeps(beam, (-4, -4, -4)), True)

    def test_the_beam_under_another_limit(self):
        beam = Beam(2, 1, [5, 3], 0)
        self.assertIs(keeps(beam, [2, 1]), False)
        self.assertIs(keeps(under(beam, 13), [2, 1]), True)
        self.assertIs(keeps(under(beam, 12), [2, 1]), False)
        self.assertIs(keeps(beam, [2, 1]), False)

    def test_every_standing_of_some_beams(self):
        for beam in some_beams():
            for standing in standings(beam):
                counted = counted_tilt(beam, standing)
                self.assertIs(keeps(beam, standing), -beam.limit <= counted <= beam.limit)
                self.assertIs(keeps(under(beam, abs(counted)), list(standing)), True)
                if counted != 0:
                    self.assertIs(keeps(under(beam, abs(counted) - 1), list(standing)), False)


class InHand(BeamCase):
    def test_ordinary_standings(self):
        beam = Beam(3, 2, [5, 3, 8], 0)
        for handed in ([3, -2, 1], (3, -2, 1)):
            self.assertEqual([in_hand(beam, handed, weight) for weight in (1, 2, 3)], [2, 23, 9])

    def test_a_weight_out_of_the_tray(self):
        beam = Beam(3, 2, [5, 3, 8], 10)
        self.assertEqual(in_hand(beam, [0, -2, 1], 1), 2)

    def test_the_only_weight(self):
        beam = Beam(3, 2, [5], 10)
        for place in range(-3, 4):
            self.assertEqual(in_hand(beam, [place], 1), 0)

    def test_two_weights_of_one_heft_and_place(self):
        beam = Beam(2, 2, [6, 6], 10)
        self.assertEqual(in_hand(beam, [2, 2], 1), 12)
        self.assertEqual(in_hand(beam, [2, 2], 2), 12)

    def test_every_standing_of_some_beams(self):
        for beam in some_beams():
            for standing in standings(beam):
                for weight in range(1, len(standing) + 1):
                    for handed in (standing, list(standing)):
                        told = in_hand(beam, handed, weight)
                        self.assertIs(type(told), int)
                        self.assertEqual(told, counted_tilt(beam, standing, weight))

    def test_numbers_of_no_weight(self):
        for weights in range(6):
            beam = Beam(1, 3, [7] * weights, 400)
            for handed in ([0] * weights, (0,) * weights):
                for weight in (0, weights + 1, -1, -weights, -weights - 1, weights + 2, HUGE, -HUGE):
                    if weight < 1 or weight > weights:
                        with self.subTest(handed=handed, weight=weight):
                            self.refused(NoWeight, in_hand, beam, handed, weight)

    def test_the_first_and_the_last_weight(self):
        for weights in range(1, 6):
            beam = Beam(1, 3, list(range(1, weights + 1)), 400)
            standing = [1] + [0] * (weights - 1)
            self.assertEqual(in_hand(beam, standing, 1), 0)
            standing = [0] * (weights - 1) + [-1]
            self.assertEqual(in_hand(beam, standing, weights), 0)

    def test_a_bad_standing_comes_ahead_of_no_weight(self):
        beam = Beam(2, 1, [3, 4], 10)
        for weight in (0, 3, -1, HUGE, -HUGE):
            for standing in ([0], [0, 0, 0], [3, 0], [0, -3], [1, 1], [HUGE, 0], [0, -HUGE]):
                with self.subTest(standing=standing, weight=weight):
                    self.refused(BadStanding, in_hand, beam, standing, weight)

    def test_past_the_limit_is_no_reason_to_refuse(self):
        beam = Beam(4, 1, [20, 20], 0)
        self.assertEqual(in_hand(beam, [4, 3], 1), 60)
        self.refused(NoWeight, in_hand, beam, [4, 3], 3)


class Loads(BeamCase):
    def test_ordinary_standings(self):
        beam = Beam(2, 3, [5, 3, 8, 1], 10)
        for standing, told in (
            ((0, 0, 0, 0), [0, 0, 4, 0, 0]), ((-2, 0, 0, 0), [1, 0, 3, 0, 0]), ((0, 2, 0, 2), [0, 0, 2, 0, 2]),
            ((1, 1, -1, 1), [0, 1, 0, 3, 0]), ((-2, -1, 1, 2), [1, 1, 0, 1, 1]),
        ):
            with self.subTest(standing):
                self.assertEqual(loads(beam, standing), told)
                self.assertEqual(loads(beam, list(standing)), told)

    def test_no_weights(self):
        for notches in (1, 2, 3, 4):
            self.assertEqual(loads(Beam(notches, 1, [], 0), ()), [0] * (2 * notches + 1))

    def test_one_weight_at_each_place(self):
        for notches in (1, 2, 3, 4):
            beam = Beam(notches, 1, [20], 0)
            for seat in range(2 * notches + 1):
                expected = [0] * (2 * notches + 1)
                expected[seat] = 1
                self.assertEqual(loads(beam, [seat - notches]), expected)

    def test_every_standing_of_some_beams(self):
        for beam in some_beams():
            for standing in standings(beam):
                expected = [0] * (2 * beam.notches + 1)
                for place in standing:
                    expected[place + beam.notches] += 1
                for handed in (standing, list(standing)):
                    told = loads(beam, handed)
                    self.assertIs(type(told), list)
                    self.assertEqual(told, expected)
                    for many in told:
                        self.assertIs(type(many), int)


if __name__ == "__main__":
    unittest.main()
