"""Point 1: what is handed in stays, what was made of it stays, what is told is the caller's own, nothing is kept."""

import unittest

from beamtender.beam import Beam, as_standing, mirrored, under
from beamtender.errors import BadBeam, BadStanding, NoWeight
from beamtender.looks import in_hand, keeps, loads, side, tilt
from helping import HUGE, BeamCase, fields, some_beams, standings


def looks(beam, standing):
    told = [ask(beam, standing) for ask in (as_standing, mirrored, tilt, side, keeps, loads)]
    return told + [in_hand(beam, standing, weight) for weight in range(1, len(beam.hefts) + 1)]


class HandedInStays(BeamCase):
    def test_hefts_stay(self):
        hefts = [5, 3, 8]
        beam = Beam(2, 1, hefts, 10)
        looks(beam, [1, 0, -1])
        under(beam, 3)
        self.assertEqual(hefts, [5, 3, 8])

    def test_hefts_stay_where_the_beam_is_refused(self):
        for handed in ([5, 0, 3], [21, 1], [4] * 6, [HUGE, -HUGE]):
            ahead = list(handed)
            self.refused(BadBeam, Beam, 2, 1, handed, 10)
            self.assertEqual(handed, ahead)

    def test_standings_and_beams_stay(self):
        for beam in some_beams():
            told = fields(beam)
            for standing in standings(beam):
                handed = list(standing)
                looks(beam, handed)
                self.assertEqual(handed, list(standing))
                self.assertEqual(fields(beam), told)

    def test_standings_stay_where_they_are_refused(self):
        beam = Beam(2, 1, [5, 3], 10)
        for handed in ([1, 1], [3, 0], [0], [2, 1, 0], [HUGE, -HUGE]):
            ahead = list(handed)
            for ask in (as_standing, mirrored, tilt, side, keeps, loads):
                self.refused(BadStanding, ask, beam, handed)
            self.refused(BadStanding, in_hand, beam, handed, 1)
            self.assertEqual(handed, ahead)
        handed = [2, -1]
        self.refused(NoWeight, in_hand, beam, handed, 3)
        self.assertEqual(handed, [2, -1])
        self.assertEqual(fields(beam), (2, 1, (5, 3), 10))


class ChangedAfterwards(BeamCase):
    def test_the_hefts_of_a_beam(self):
        hefts = [5, 3, 8]
        beam = Beam(2, 1, hefts, 10)
        other = under(beam, 4)
        ahead = looks(beam, (2, 1, -1)), looks(other, (2, 1, -1))
        hefts[0] = 20
        hefts.append(1)
        self.assertEqual(fields(beam), (2, 1, (5, 3, 8), 10))
        self.assertEqual(fields(other), (2, 1, (5, 3, 8), 4))
        self.assertEqual((looks(beam, (2, 1, -1)), looks(other, (2, 1, -1))), ahead)
        hefts.clear()
        self.assertEqual(fields(beam), (2, 1, (5, 3, 8), 10))
        self.assertEqual((looks(beam, (2, 1, -1)), looks(other, (2, 1, -1))), ahead)

    def test_one_list_for_two_beams(self):
        hefts = [5, 3]
        first = Beam(2, 1, hefts, 10)
        hefts[1] = 7
        second = Beam(2, 1, hefts, 10)
        self.assertEqual(first.hefts, (5, 3))
        self.assertEqual(second.hefts, (5, 7))
        self.assertEqual((tilt(first, [0, 1]), tilt(second, [0, 1])), (3, 7))

    def test_a_standing(self):
        beam = Beam(2, 1, [5, 3], 10)
        handed = [2, -1]
        told, turned_round, counted = as_standing(beam, handed), mirrored(beam, handed), loads(beam, handed)
        handed[0] = 1
        handed.append(0)
        self.assertEqual(told, (2, -1))
        self.assertEqual(turned_round, (-2, 1))
        self.assertEqual(counted, [0, 1, 0, 0, 1])

    def test_one_list_handed_in_twice(self):
        beam = Beam(2, 1, [5, 3], 10)
        handed = [2, -1]
        self.assertEqual(looks(beam, handed), looks(beam, (2, -1)))
        handed[0] = -2
        self.assertEqual(looks(beam, handed), looks(beam, (-2, -1)))
        handed[1] = -2
        self.refused(BadStanding, tilt, beam, handed)


class ToldIsTheCallersOwn(BeamCase):
    def test_changed_loads_change_nothing(self):
        for beam in some_beams():
            for standing in standings(beam):
                first, second = loads(beam, standing), loads(beam, standing)
                expected = list(second)
                self.assertIsNot(first, second)
                first[0] = 77
                first.append(78)
                self.assertEqual(second, expected)
                self.assertEqual(loads(beam, standing), expected)
                first.clear()
                self.assertEqual(loads(beam, standing), expected)

    def test_changed_loads_change_no_other_beams(self):
        first, second = Beam(2, 1, [5], 10), Beam(2, 1, [5], 10)
        loads(first, [1]).clear()
        loads(first, [0]).append(9)
        self.assertEqual(loads(second, [1]), [0, 0, 0, 1, 0])
        self.assertEqual(loads(second, [0]), [0, 0, 1, 0, 0])

    def test_changed_loads_change_no_other_look(self):
        beam = Beam(2, 1, [5, 3], 10)
        ahead = looks(beam, (2, -1))
        told = loads(beam, (2, -1))
        told.reverse()
        told.append(4)
        self.assertEqual(looks(beam, (2, -1)), ahead)


class NothingIsKept(BeamCase):
    def test_beams_made_twice_are_apart(self):
        first, second = Beam(2, 1, [5, 3], 10), Beam(2, 1, [5, 3], 10)
        self.assertIsNot(first, second)
        self.assertIsNot(under(first, 10), under(first, 10))
        self.assertIsNot(under(first, 10), first)

    def test_a_standing_asked_at_many_beams(self):
        told = []
        for heft in range(1, 21):
            for limit in (0, heft, 400):
                beam = Beam(1, 1, [heft], limit)
                self.assertEqual((tilt(beam, [1]), tilt(beam, [-1])), (heft, -heft))
                self.assertIs(keeps(beam, [1]), limit >= heft)
                told.append((heft, limit, beam))
        for heft, limit, beam in told:
            self.assertEqual(fields(beam), (1, 1, (heft,), limit))
            self.assertEqual((tilt(beam, [1]), tilt(beam, [-1])), (heft, -heft))
            self.assertIs(keeps(beam, [1]), limit >= heft)

    def test_the_same_row_of_places_at_beams_of_other_room_and_notches(self):
        narrow, wide = Beam(1, 1, [5, 3], 10), Beam(2, 2, [5, 3], 10)
        for turn in range(2):
            self.assertEqual(as_standing(wide, [1, 1]), (1, 1))
            self.refused(BadStanding, as_standing, narrow, [1, 1])
            self.assertEqual(as_standing(wide, [2, 0]), (2, 0))
            self.refused(BadStanding, as_standing, narrow, [2, 0])
            self.assertEqual(loads(wide, [1, 0]), [0, 0, 1, 1, 0])
            self.assertEqual(loads(narrow, [1, 0]), [0, 1, 1])

    def test_a_refusal_leaves_nothing_behind(self):
        beam = Beam(2, 1, [5, 3], 10)
        ahead = looks(beam, [2, -1])
        self.refused(BadBeam, Beam, 5, 1, [5, 3], 10)
        self.refused(BadBeam, under, beam, 401)
        self.refused(BadStanding, tilt, beam, [1, 1])
        self.refused(NoWeight, in_hand, beam, [2, -1], 3)
        self.assertEqual(looks(beam, [2, -1]), ahead)


if __name__ == "__main__":
    unittest.main()
