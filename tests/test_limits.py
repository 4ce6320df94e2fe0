"""Points 20 and 21: the least limit, the row that comes with it, and its shut set."""

import unittest

from beamtender.beam import Beam, under
from beamtender.errors import BadStanding
from beamtender.layers import fewest
from beamtender.limits import Least, least
from beamtender.moves import moved, moves
from helping import HUGE, BeamCase, counted_tilt, layers_from, neighbours, standings, walked


def small_beams():
    told = [
        (1, 1, (), 0), (3, 1, [4], 5), (1, 1, (1, 1), 0), (2, 1, [3, 5], 4), (2, 2, (3, 3), 400),
        (1, 1, [1, 2, 3], 0), (1, 2, (2, 2, 3), 1), (1, 1, [1, 1, 1, 1], 2),
    ]
    return [Beam(notches, room, hefts, limit) for notches, room, hefts, limit in told]


def greater_beams():
    return [Beam(2, 1, [2, 3, 4], 0), Beam(2, 2, (4, 1, 3), 3), Beam(1, 2, [1, 1, 2, 3], 1), Beam(2, 3, [9, 20], 7)]


def size(beam, standing):
    return abs(counted_tilt(beam, standing))


class LeastCase(BeamCase):
    def check_kinds(self, told):
        self.assertIs(type(told), Least)
        self.assertIs(type(told.limit), int)
        for row in (told.row, told.shut):
            self.assertIs(type(row), list)
            for member in row:
                self.assertIs(type(member), tuple)

    def check_starts(self, beam, starts):
        # The layers of every start under every limit, by a search of the test's own.
        every = standings(beam)
        highest = max(size(beam, standing) for standing in every)
        near = [neighbours(under(beam, limit)) for limit in range(highest + 1)]
        found = []
        for start in starts:
            by_limit = [layers_from(rows, start) for rows in near]
            for goal in every:
                with self.subTest(hefts=beam.hefts, start=start, goal=goal):
                    found.append(self.check_least(beam, start, goal, by_limit))
        return found

    def check_least(self, beam, start, goal, by_limit):
        told = least(beam, start, goal)
        self.check_kinds(told)
        lowest = max(size(beam, start), size(beam, goal))
        limit = lowest
        while not any(goal in layer for layer in by_limit[limit]):
            limit += 1
        self.assertEqual(told.limit, limit)
        self.assertEqual(walked(under(beam, limit), start, told.row), goal)
        self.assertIn(goal, by_limit[limit][len(told.row)])
        if limit > lowest:
            self.assertEqual(told.shut, sorted(standing for layer in by_limit[limit - 1] for standing in layer))
        else:
            self.assertEqual(told.shut, [])
        return told


class EveryGoal(LeastCase):
    def test_every_start_and_goal_of_small_beams(self):
        found = []
        for beam in small_beams():
            found.extend(self.check_starts(beam, standings(beam)))
        self.assertTrue(any(len(told.shut) > 1 for told in found))

    def test_every_goal_from_some_starts_of_greater_beams(self):
        found = []
        for beam in greater_beams():
            every = standings(beam)
            found.extend(self.check_starts(beam, every[::max(1, len(every) // 6)]))
        self.assertTrue(any(len(told.shut) > 10 for told in found))

    def test_against_asking_for_the_way_under_every_limit(self):
        for beam in small_beams():
            every = standings(beam)
            for start in every[::max(1, len(every) // 4)]:
                for goal in every:
                    told = least(beam, start, goal)
                    lowest = max(size(beam, start), size(beam, goal))
                    ways = [fewest(under(beam, limit), start, goal) for limit in range(lowest, told.limit + 2)]
                    self.assertEqual([way.reached for way in ways], [False] * (told.limit - lowest) + [True, True])
                    self.assertEqual(len(told.row), ways[-2].many)
                    self.assertEqual(told.shut, ways[-3].shut if len(ways) > 2 else [])


class LeastLimit(LeastCase):
    def test_two_weights_that_change_places(self):
        told = least(Beam(1, 1, [1, 1], 0), [1, -1], (-1, 1))
        self.check_kinds(told)
        self.assertEqual((told.limit, len(told.row), told.shut), (1, 3, [(1, -1)]))

    def test_a_shut_set_of_several_standings(self):
        beam = Beam(1, 1, [1, 2, 3], 0)
        for start, goal in (((-1, 1, 0), (0, -1, 1)), ([-1, 1, 0], [0, -1, 1])):
            told = least(beam, start, goal)
            self.assertEqual(told.limit, 2)
            self.assertEqual(told.shut, [(-1, 0, 0), (-1, 1, 0), (0, 0, 0), (1, -1, 0), (1, 0, 0)])
            self.assertEqual(walked(under(beam, 2), start, told.row), (0, -1, 1))
            self.assertEqual(len(told.row), fewest(under(beam, 2), start, goal).many)

    def test_arguments_by_name(self):
        self.assertEqual(least(beam=Beam(1, 1, [1, 1], 0), start=[1, -1], goal=[-1, 1]).limit, 1)

    def test_the_start_as_the_goal(self):
        for limit in (0, 17, 400):
            beam = Beam(3, 2, [5, 3, 8], limit)
            for standing, size_told in (((3, -2, 1), 17), ((-3, 2, -1), 17), ((0, 0, 0), 0), ((1, 1, -1), 0)):
                for handed in (standing, list(standing)):
                    told = least(beam, handed, standing)
                    self.check_kinds(told)
                    self.assertEqual((told.limit, told.row, told.shut), (size_told, [], []))

    def test_no_weights(self):
        for limit in (0, 400):
            told = least(Beam(2, 1, [], limit), (), [])
            self.check_kinds(told)
            self.assertEqual((told.limit, told.row, told.shut), (0, [], []))

    def test_one_of_them_is_past_one_less(self):
        beam = Beam(2, 1, [3, 5], 400)
        for start, goal in (((0, 0), (0, 2)), ((0, 2), (0, 0))):
            told = least(beam, start, goal)
            self.assertEqual((told.limit, len(told.row), told.shut), (10, 1, []))

    def test_start_and_goal_past_the_beams_own_limit(self):
        beam = Beam(2, 1, [3, 5], 4)
        self.assertEqual((least(beam, (0, 2), (0, 0)).limit, least(beam, (0, 0), [0, -2]).limit), (10, 10))
        told = least(beam, (1, 2), (-1, -2))
        self.assertEqual((told.limit, told.shut), (13, []))
        self.assertEqual(walked(under(beam, 13), (1, 2), told.row), (-1, -2))

    def test_the_beams_own_limit_plays_no_part(self):
        first = Beam(2, 1, [2, 3, 4], 0)
        for start in ((-2, -1, 1), (0, 0, 0), (2, 1, 0)):
            for goal in standings(first)[::5]:
                told = [least(under(first, limit), start, goal) for limit in (0, 3, 5, 400)]
                for other in told:
                    self.assertEqual((other.limit, len(other.row), other.shut),
                                     (told[0].limit, len(told[0].row), told[0].shut))
        self.assertEqual(first.limit, 0)

    def test_the_widest_tilts(self):
        beam = Beam(4, 3, [20, 20, 20], 0)
        told = least(beam, (4, 4, 4), [-4, -4, -4])
        self.assertEqual((told.limit, len(told.row), told.shut), (240, 3, []))
        self.assertEqual(walked(under(beam, 240), (4, 4, 4), told.row), (-4, -4, -4))

    def test_no_move_under_one_less_leaves_the_shut_set(self):
        beam = Beam(2, 2, [4, 1, 3], 0)
        start, goal = (-2, 0, 2), (-2, 2, 1)
        told = least(beam, start, goal)
        self.assertEqual((told.limit, len(told.shut)), (5, 53))
        lower = under(beam, 4)
        behind = {moved(lower, standing, move) for standing in told.shut for move in moves(lower, standing)}
        self.assertLessEqual(behind, set(told.shut))
        self.assertIn(start, told.shut)
        self.assertNotIn(goal, told.shut)
        self.assertEqual(told.shut, sorted(set(told.shut)))

    def test_a_bad_standing_is_refused(self):
        beam = Beam(2, 1, [3, 5], 4)
        for bad in ((0,), (0, 0, 0), (), (3, 0), (0, -3), (1, 1), (HUGE, 0), (0, -HUGE)):
            for other in ((0, 0), (0, 2), (-1, 1), bad):
                for start, goal in ((bad, other), (other, bad), (list(bad), list(other)), (list(other), list(bad))):
                    with self.subTest(start=start, goal=goal):
                        self.refused(BadStanding, least, beam, start, goal)


if __name__ == "__main__":
    unittest.main()
