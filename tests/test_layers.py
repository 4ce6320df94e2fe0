"""Points 14 to 19: the fewest moves, the layers, what a way tells, and the next move."""

import unittest

from beamtender.beam import Beam, under
from beamtender.errors import BadStanding, GoalPast, NoWay, StartPast
from beamtender.layers import Way, fewest, next_move
from beamtender.moves import moved, moves
from helping import HUGE, BeamCase, keeping, layers_from, neighbours, walked

# Notches, room, hefts, and limits near the tilts' sizes and far from them.
SEARCHED = (
    (1, 1, (), (0, 400)),
    (3, 1, [4], (0, 3, 4, 8, 11, 12, 400)),
    (1, 1, (1, 1), (0, 1, 400)),
    (2, 1, [3, 5], (0, 1, 2, 3, 4, 5, 6, 10, 13, 100)),
    (2, 2, (3, 3), (0, 2, 3, 6, 12)),
    (1, 1, [1, 2, 3], (0, 1, 2, 3, 50)),
    (1, 2, (2, 2, 3), (0, 1, 2, 3, 5, 7)),
    (1, 1, (1, 1, 1, 1), (0, 1, 9)),
)
# These have many standings: not every one of them is taken as the start.
SEARCHED_IN_PART = (
    (2, 1, (2, 3, 4), (2, 3, 4, 5, 11)),
    (2, 2, [4, 1, 3], (1, 3, 4, 400)),
    (1, 2, (1, 1, 2, 3), (1, 2, 5)),
    (1, 3, [5, 4, 3, 2, 1], (1, 2, 3)),
)


def beams(rows):
    for notches, room, hefts, limits in rows:
        for limit in limits:
            yield Beam(notches, room, hefts, limit)


def some(rows, many):
    return rows[::max(1, len(rows) // many)]


class WayCase(BeamCase):
    def check_kinds(self, way):
        self.assertIs(type(way), Way)
        self.assertIs(type(way.reached), bool)
        for told in (way.row, way.layers, way.again, way.shut):
            self.assertIs(type(told), list)
        for layer in way.layers:
            self.assertIs(type(layer), list)
            for standing in layer:
                self.assertIs(type(standing), tuple)
        for told in way.row + way.shut:
            self.assertIs(type(told), tuple)
        for weight in way.again:
            self.assertIs(type(weight), int)

    def check_reached(self, beam, start, goal, layers, way):
        many = [goal in layer for layer in layers].index(True)
        self.assertIs(way.reached, True)
        self.assertIs(type(way.many), int)
        self.assertEqual(way.many, many)
        self.assertEqual(len(way.row), many)
        self.assertEqual(walked(beam, start, way.row), goal)
        self.assertEqual(way.layers, layers[:many + 1])
        weights = [move[0] for move in way.row]
        self.assertEqual(way.again, [weight for weight in range(1, 6) if weights.count(weight) > 1])
        self.assertEqual(way.shut, [])

    def check_not_reached(self, layers, way):
        self.assertIs(way.reached, False)
        self.assertIsNone(way.many)
        self.assertEqual(way.row, [])
        self.assertEqual(way.layers, layers)
        self.assertEqual(way.again, [])
        self.assertEqual(way.shut, sorted(standing for layer in layers for standing in layer))

    def check_way(self, beam, start, goal, layers):
        way = fewest(beam, start, goal)
        self.check_kinds(way)
        if any(goal in layer for layer in layers):
            self.check_reached(beam, start, goal, layers, way)
        else:
            self.check_not_reached(layers, way)
        return way

    def check_next(self, beam, start, goal, layers):
        if not any(goal in layer for layer in layers):
            self.refused(NoWay, next_move, beam, start, goal)
        elif start == goal:
            self.assertIsNone(next_move(beam, start, goal))
        else:
            told = next_move(beam, start, goal)
            self.assertIs(type(told), tuple)
            behind = walked(beam, start, [told])
            self.assertIn(behind, layers[1])
            many = fewest(beam, start, goal).many
            self.assertEqual(fewest(beam, behind, goal).many, many - 1)

    def search(self, beam, starts):
        near = neighbours(beam)
        goals = keeping(beam)
        found = []
        for start in starts:
            layers = layers_from(near, start)
            for goal in goals:
                with self.subTest(hefts=beam.hefts, limit=beam.limit, start=start, goal=goal):
                    found.append(self.check_way(beam, start, goal, layers))
        return found


class EveryGoal(WayCase):
    def test_every_start_and_goal_of_small_beams(self):
        found = []
        for beam in beams(SEARCHED):
            found.extend(self.search(beam, keeping(beam)))
        # The beams are of use only where they show each of these.
        self.assertTrue(any(way.reached and way.many == 0 for way in found))
        self.assertTrue(any(way.again for way in found))
        self.assertTrue(any(not way.reached and len(way.shut) > 1 for way in found))

    def test_every_goal_from_some_starts_of_greater_beams(self):
        found = []
        for beam in beams(SEARCHED_IN_PART):
            found.extend(self.search(beam, some(keeping(beam), 4)))
        self.assertTrue(any(len(way.again) > 1 for way in found))
        self.assertTrue(any(not way.reached and len(way.layers) > 3 for way in found))

    def test_the_next_move(self):
        for beam in beams(SEARCHED):
            near = neighbours(beam)
            for start in some(keeping(beam), 5):
                layers = layers_from(near, start)
                for goal in keeping(beam):
                    with self.subTest(hefts=beam.hefts, limit=beam.limit, start=start, goal=goal):
                        self.check_next(beam, start, goal, layers)

    def test_the_widest_beams(self):
        for beam in (Beam(4, 1, [20, 13, 7], 60), Beam(2, 3, (9, 8, 7, 6), 400), Beam(4, 3, [20, 20, 20], 240)):
            near = neighbours(beam)
            goals = keeping(beam)
            for start in (goals[0], goals[-1]):
                layers = layers_from(near, start)
                for goal in some(goals, 12):
                    self.check_way(beam, start, goal, layers)


class Reached(WayCase):
    def test_the_start_as_the_goal(self):
        for beam in (Beam(3, 2, [5, 3, 8], 17), Beam(3, 2, [5, 3, 8], 400)):
            for start in ((3, -2, 1), [3, -2, 1]):
                for goal in ((3, -2, 1), [3, -2, 1]):
                    way = fewest(beam, start, goal)
                    self.check_kinds(way)
                    self.assertIs(way.reached, True)
                    self.assertEqual((way.many, way.row, way.again, way.shut), (0, [], [], []))
                    self.assertEqual(way.layers, [[(3, -2, 1)]])
                    self.assertIsNone(next_move(beam, start, goal))

    def test_no_weights(self):
        for limit in (0, 400):
            way = fewest(Beam(2, 1, [], limit), (), [])
            self.check_kinds(way)
            self.assertIs(way.reached, True)
            self.assertEqual((way.many, way.row, way.layers, way.again, way.shut), (0, [], [[()]], [], []))
            self.assertIsNone(next_move(Beam(2, 1, [], limit), [], ()))

    def test_one_move(self):
        beam = Beam(2, 1, [3, 5], 6)
        for start, goal in (((0, 1), (0, -1)), ([0, 1], [0, -1])):
            way = fewest(beam, start, goal)
            self.assertEqual((way.many, way.row), (1, [(2, 1, -1)]))
            self.assertEqual(way.layers, [[(0, 1)], [(-2, 1), (-1, 1), (0, -1), (0, 0)]])
            self.assertEqual((way.again, way.shut), ([], []))
            self.assertEqual(next_move(beam, start, goal), (2, 1, -1))

    def test_arguments_by_name(self):
        beam = Beam(2, 1, [3, 5], 6)
        self.assertEqual(fewest(beam=beam, start=[0, 1], goal=[0, -1]).many, 1)
        self.assertEqual(next_move(beam=beam, start=[0, 1], goal=[0, -1]), (2, 1, -1))

    def test_a_goal_in_the_last_layer_that_is_told_whole(self):
        beam = Beam(1, 3, [1, 1, 1], 400)
        way = fewest(beam, (0, 0, 0), (-1, 0, 0))
        self.assertEqual(way.layers[1:], [[(-1, 0, 0), (0, -1, 0), (0, 0, -1), (0, 0, 1), (0, 1, 0), (1, 0, 0)]])

    def test_two_weights_that_change_places(self):
        beam = Beam(1, 1, [1, 1], 1)
        way = fewest(beam, [1, -1], [-1, 1])
        self.assertEqual(way.many, 3)
        self.assertEqual(walked(beam, (1, -1), way.row), (-1, 1))
        self.assertEqual(len(way.again), 1)
        self.assertEqual([move[0] for move in way.row].count(way.again[0]), 2)
        self.assertEqual(way.layers, [[(1, -1)], [(0, -1), (1, 0)], [(-1, 0), (0, 0), (0, 1)], [(-1, 1)]])

    def test_more_moves_than_weights_lie_elsewhere(self):
        # Three weights lie elsewhere; the limit makes each of them move twice.
        beam = Beam(2, 1, [2, 3, 4], 4)
        way = fewest(beam, (-2, -1, 1), (0, 2, -2))
        self.assertEqual((way.many, way.again), (6, [1, 2, 3]))
        self.assertEqual(walked(beam, (-2, -1, 1), way.row), (0, 2, -2))
        self.assertEqual(fewest(under(beam, 400), (-2, -1, 1), (0, 2, -2)).many, 3)

    def test_the_row_moved_move_by_move(self):
        beam = Beam(2, 2, [4, 1, 3], 5)
        for goal in keeping(beam):
            way = fewest(beam, [-2, -2, 2], goal)
            standing = (-2, -2, 2)
            for seat, move in enumerate(way.row):
                standing = moved(beam, standing, move)
                self.assertIn(standing, way.layers[seat + 1])
            self.assertEqual(standing, goal)

    def test_each_next_move_leads_nearer(self):
        beam = Beam(2, 1, [2, 3, 4], 4)
        standing, goal = (-2, -1, 1), (0, 2, -2)
        for left in (6, 5, 4, 3, 2, 1):
            self.assertEqual(fewest(beam, standing, goal).many, left)
            standing = moved(beam, standing, next_move(beam, standing, goal))
        self.assertEqual(standing, goal)


    def test_lists_handed_in(self):
        beam = Beam(2, 1, [3, 5], 6)
        layers = layers_from(neighbours(beam), (0, 0))
        for goal in keeping(beam):
            way = fewest(beam, [0, 0], list(goal))
            self.check_kinds(way)
            self.check_reached(beam, (0, 0), goal, layers, way)


class Layers(WayCase):
    def check_layers(self, beam, start, layers):
        self.assertEqual(layers[0], [start])
        held = {start}
        for ahead, layer in zip(layers, layers[1:]):
            behind = {moved(beam, standing, move) for standing in ahead for move in moves(beam, standing)}
            self.assertEqual(layer, sorted(behind - held))
            self.assertNotEqual(layer, [])
            held |= behind

    def test_each_layer_against_the_one_ahead_of_it(self):
        for beam in beams(SEARCHED_IN_PART):
            goals = keeping(beam)
            for start in some(goals, 3):
                for goal in some(goals, 10):
                    way = fewest(beam, start, goal)
                    self.check_layers(beam, start, way.layers)
                    self.assertEqual([goal in layer for layer in way.layers],
                                     [False] * (len(way.layers) - 1) + [way.reached])

    def test_rising_by_the_first_place_then_by_the_second(self):
        beam = Beam(1, 2, [1, 1], 400)
        way = fewest(beam, (1, 0), (-1, -1))
        self.assertEqual(way.layers, [[(1, 0)], [(-1, 0), (0, 0), (1, -1), (1, 1)],
                                      [(-1, -1), (-1, 1), (0, -1), (0, 1)]])


class NotReached(WayCase):
    def check_no_way(self, beam, start, goal, layers, shut):
        way = fewest(beam, start, goal)
        self.check_kinds(way)
        self.assertIs(way.reached, False)
        self.assertIsNone(way.many)
        self.assertEqual((way.row, way.again), ([], []))
        self.assertEqual(way.layers, layers)
        self.assertEqual(way.shut, shut)
        self.refused(NoWay, next_move, beam, start, goal)

    def test_no_move_from_the_start(self):
        beam = Beam(1, 1, [5, 5], 4)
        for start, goal in (((1, -1), (0, 0)), ([1, -1], [-1, 1])):
            self.check_no_way(beam, start, goal, [[(1, -1)]], [(1, -1)])

    def test_some_standings_can_be_come_to(self):
        beam = Beam(1, 1, [1, 2, 3], 1)
        self.check_no_way(
            beam, [-1, 1, 0], (0, -1, 1),
            [[(-1, 1, 0)], [(-1, 0, 0)], [(0, 0, 0), (1, 0, 0)], [(1, -1, 0)]],
            [(-1, 0, 0), (-1, 1, 0), (0, 0, 0), (1, -1, 0), (1, 0, 0)])

    def test_no_move_leaves_the_shut_set(self):
        for beam in (Beam(1, 1, [1, 2, 3], 1), Beam(2, 1, [3, 5], 5), Beam(2, 1, [2, 3, 4], 3)):
            shut_sets = 0
            goals = keeping(beam)
            for start in goals:
                for goal in some(goals, 6):
                    way = fewest(beam, start, goal)
                    if not way.reached:
                        shut_sets += 1
                        behind = {moved(beam, standing, move) for standing in way.shut
                                  for move in moves(beam, standing)}
                        self.assertLessEqual(behind, set(way.shut))
                        self.assertIn(start, way.shut)
                        self.assertNotIn(goal, way.shut)
            self.assertGreater(shut_sets, 0)


class Past(WayCase):
    def past(self, error, beam, start, goal):
        for ask in (fewest, next_move):
            for first, last in ((start, goal), (list(start), list(goal))):
                with self.subTest(ask=ask.__name__, start=first, goal=last):
                    self.refused(error, ask, beam, first, last)

    def test_start_past(self):
        beam = Beam(2, 1, [3, 5], 6)
        self.past(StartPast, beam, (0, 2), (0, 0))
        self.past(StartPast, beam, (0, -2), (0, 0))

    def test_goal_past(self):
        beam = Beam(2, 1, [3, 5], 6)
        self.past(GoalPast, beam, (0, 0), (0, 2))
        self.past(GoalPast, beam, (0, 0), (0, -2))

    def test_start_past_ahead_of_goal_past(self):
        beam = Beam(2, 1, [3, 5], 6)
        self.past(StartPast, beam, (0, 2), (0, -2))
        self.past(StartPast, beam, (0, 2), (0, 2))

    def test_goal_past_ahead_of_no_way(self):
        self.past(GoalPast, Beam(1, 1, [5, 5], 4), (1, -1), (1, 0))

    def test_a_tilt_at_the_limit_and_one_more(self):
        for place in (-2, 2):
            beam = Beam(2, 1, [3, 5], 10)
            self.assertEqual(fewest(beam, (0, place), (0, 0)).many, 1)
            self.assertEqual(fewest(beam, (0, 0), (0, place)).many, 1)
            self.past(StartPast, under(beam, 9), (0, place), (0, 0))
            self.past(GoalPast, under(beam, 9), (0, 0), (0, place))

    def test_a_bad_standing_comes_first(self):
        beam = Beam(2, 1, [3, 5], 4)
        shut_in = (-1, 1)
        for bad in ((0,), (0, 0, 0), (), (3, 0), (0, -3), (1, 1), (HUGE, 0), (0, -HUGE)):
            for other in ((0, 0), (0, 2), (1, -2), shut_in, bad):
                self.past(BadStanding, beam, bad, other)
                self.past(BadStanding, beam, other, bad)


if __name__ == "__main__":
    unittest.main()
