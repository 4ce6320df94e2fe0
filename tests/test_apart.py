"""Point 1: what is handed in stays, what was made of it stays, what is told is the caller's own, nothing is kept."""

import unittest

from beamtender.beam import Beam, as_standing, mirrored, under
from beamtender.errors import (
    BadBeam, BadStanding, BeamError, GoalPast, NoPlace, NoRoom, NothingBack, NoWay, NoWeight, StartPast, TipsBehind,
    TipsInHand,
)
from beamtender.game import Play
from beamtender.layers import fewest, next_move
from beamtender.limits import least
from beamtender.looks import in_hand, keeps, loads, side, tilt
from beamtender.moves import moved, moves, refusal, turned
from beamtender.texts import read_beam, read_move, read_standing, write_beam, write_move, write_standing
from helping import HUGE, BeamCase, again_in, fields, keeping, some_beams, standings, walked


def looks(beam, standing):
    told = [ask(beam, standing) for ask in (as_standing, mirrored, tilt, side, keeps, loads)]
    return told + [in_hand(beam, standing, weight) for weight in range(1, len(beam.hefts) + 1)]


def way_fields(way):
    return way.reached, way.many, list(way.row), [list(layer) for layer in way.layers], list(way.again), list(way.shut)


def way_lists(way):
    return [way.row, way.layers, way.again, way.shut] + way.layers


def way_promised(way):
    """What a way tells but for its row and `again`: of several rows another may be told at another time (point 19)."""
    return way.reached, way.many, [list(layer) for layer in way.layers], list(way.shut)


def least_fields(told):
    return told.limit, list(told.row), list(told.shut)


def least_promised(told):
    return told.limit, len(told.row), list(told.shut)


def spoil(told):
    told.reverse()
    told.append("spoilt")
    told.insert(0, "spoilt")


class HandedInStays(BeamCase):
    def test_hefts_stay(self):
        hefts = [5, 3, 8]
        beam = Beam(2, 1, hefts, 10)
        looks(beam, [1, 0, -1])
        under(beam, 3)
        self.assertEqual(hefts, [5, 3, 8])

    def test_hefts_stay_where_the_beam_is_refused(self):
        for handed in ([5, 0, 3], [21, 1], [4] * 6, [HUGE, -HUGE]):
            ahead = list(handed)
            self.refused(BadBeam, Beam, 2, 1, handed, 10)
            self.assertEqual(handed, ahead)

    def test_standings_and_beams_stay(self):
        for beam in some_beams():
            told = fields(beam)
            for standing in standings(beam):
                handed = list(standing)
                looks(beam, handed)
                self.assertEqual(handed, list(standing))
                self.assertEqual(fields(beam), told)

    def test_standings_stay_where_they_are_refused(self):
        beam = Beam(2, 1, [5, 3], 10)
        for handed in ([1, 1], [3, 0], [0], [2, 1, 0], [HUGE, -HUGE]):
            ahead = list(handed)
            for ask in (as_standing, mirrored, tilt, side, keeps, loads):
                self.refused(BadStanding, ask, beam, handed)
            self.refused(BadStanding, in_hand, beam, handed, 1)
            self.assertEqual(handed, ahead)
        handed = [2, -1]
        self.refused(NoWeight, in_hand, beam, handed, 3)
        self.assertEqual(handed, [2, -1])
        self.assertEqual(fields(beam), (2, 1, (5, 3), 10))

    def test_moves_stay(self):
        for beam in (Beam(2, 1, [3, 5], 6), Beam(1, 2, (2, 2, 3), 3)):
            told = fields(beam)
            for standing in standings(beam):
                for move in moves(beam, standing):
                    places, handed = list(standing), list(move)
                    refusal(beam, places, handed)
                    moved(beam, places, handed)
                    moves(beam, places)
                    turned(handed)
                    self.assertEqual((places, handed), (list(standing), list(move)))
            self.assertEqual(fields(beam), told)

    def test_moves_stay_where_they_are_refused(self):
        beam = Beam(2, 1, [3, 5], 6)
        for error, standing, move in (
            (BadStanding, [1, 1], [1, 1, 0]), (NoWeight, [0, 1], [3, 0, 1]), (NoPlace, [0, 1], [1, 0, HUGE]),
            (NoRoom, [0, 1], [1, 0, 1]), (TipsInHand, [0, 2], [1, 0, -1]), (TipsBehind, [0, 1], [1, 0, 2]),
        ):
            places, handed = list(standing), list(move)
            self.refused(error, moved, beam, places, handed)
            if error != BadStanding:
                refusal(beam, places, handed)
            self.assertEqual((places, handed), (standing, move))
        self.assertEqual(fields(beam), (2, 1, (3, 5), 6))

    def test_starts_and_goals_stay(self):
        beam = Beam(2, 1, [3, 5], 5)
        for start in standings(beam):
            for goal in standings(beam):
                first, last = list(start), list(goal)
                for ask in (fewest, next_move, least):
                    try:
                        ask(beam, first, last)
                    except BeamError as refused:
                        self.assertIn(type(refused), (StartPast, GoalPast, NoWay))
                    self.assertEqual((first, last), (list(start), list(goal)))
        self.assertEqual(fields(beam), (2, 1, (3, 5), 5))

    def test_what_a_play_is_handed_stays(self):
        beam = Beam(2, 1, [3, 5], 5)
        for start in keeping(beam):
            first = list(start)
            play = Play(beam, first)
            for goal in standings(beam):
                last = list(goal)
                for ask in (play.fewest, play.next_move, play.least):
                    try:
                        ask(last)
                    except BeamError as refused:
                        self.assertIn(type(refused), (GoalPast, NoWay))
                    self.assertEqual((first, last), (list(start), list(goal)))
            for move in moves(beam, start) + [(3, 0, 1), (1, start[0], 9)]:
                handed = list(move)
                try:
                    play.move(handed)
                    play.back()
                except BeamError as refused:
                    self.assertIn(type(refused), (NoPlace, NoWeight))
                self.assertEqual((first, handed), (list(start), list(move)))
        self.assertEqual(fields(beam), (2, 1, (3, 5), 5))

    def test_what_a_play_refuses_stays(self):
        beam = Beam(2, 1, [3, 5], 5)
        for error, handed in ((BadStanding, [1, 1]), (BadStanding, [0]), (StartPast, [2, 1])):
            ahead = list(handed)
            self.refused(error, Play, beam, handed)
            self.assertEqual(handed, ahead)
        self.assertEqual(fields(beam), (2, 1, (3, 5), 5))

    def test_what_is_written_stays(self):
        beam = Beam(2, 1, [3, 5], 5)
        for standing in standings(beam):
            handed = list(standing)
            write_standing(beam, handed)
            write_beam(beam, handed)
            self.assertEqual(handed, list(standing))
        for standing in ([1, 1], [0], [3, 0]):
            handed = list(standing)
            self.refused(BadStanding, write_standing, beam, handed)
            self.refused(BadStanding, write_beam, beam, handed)
            self.assertEqual(handed, standing)
        move = [2, 0, -3]
        write_move(move)
        self.assertEqual(move, [2, 0, -3])
        self.assertEqual(fields(beam), (2, 1, (3, 5), 5))

    def test_one_list_as_start_and_goal(self):
        beam = Beam(2, 1, [3, 5], 5)
        handed = [-1, 1]
        self.assertEqual(fewest(beam, handed, handed).layers, [[(-1, 1)]])
        self.assertIsNone(next_move(beam, handed, handed))
        self.assertEqual(least(beam, handed, handed).limit, 2)
        self.assertEqual(handed, [-1, 1])


class ChangedAfterwards(BeamCase):
    def test_the_hefts_of_a_beam(self):
        hefts = [5, 3, 8]
        beam = Beam(2, 1, hefts, 10)
        other = under(beam, 4)
        ahead = looks(beam, (2, 1, -1)), looks(other, (2, 1, -1))
        hefts[0] = 20
        hefts.append(1)
        self.assertEqual(fields(beam), (2, 1, (5, 3, 8), 10))
        self.assertEqual(fields(other), (2, 1, (5, 3, 8), 4))
        self.assertEqual((looks(beam, (2, 1, -1)), looks(other, (2, 1, -1))), ahead)
        hefts.clear()
        self.assertEqual(fields(beam), (2, 1, (5, 3, 8), 10))
        self.assertEqual((looks(beam, (2, 1, -1)), looks(other, (2, 1, -1))), ahead)

    def test_one_list_for_two_beams(self):
        hefts = [5, 3]
        first = Beam(2, 1, hefts, 10)
        hefts[1] = 7
        second = Beam(2, 1, hefts, 10)
        self.assertEqual(first.hefts, (5, 3))
        self.assertEqual(second.hefts, (5, 7))
        self.assertEqual((tilt(first, [0, 1]), tilt(second, [0, 1])), (3, 7))

    def test_a_standing(self):
        beam = Beam(2, 1, [5, 3], 10)
        handed = [2, -1]
        told, turned_round, counted = as_standing(beam, handed), mirrored(beam, handed), loads(beam, handed)
        handed[0] = 1
        handed.append(0)
        self.assertEqual(told, (2, -1))
        self.assertEqual(turned_round, (-2, 1))
        self.assertEqual(counted, [0, 1, 0, 0, 1])

    def test_one_list_handed_in_twice(self):
        beam = Beam(2, 1, [5, 3], 10)
        handed = [2, -1]
        self.assertEqual(looks(beam, handed), looks(beam, (2, -1)))
        handed[0] = -2
        self.assertEqual(looks(beam, handed), looks(beam, (-2, -1)))
        handed[1] = -2
        self.refused(BadStanding, tilt, beam, handed)

    def test_a_standing_and_a_move(self):
        beam = Beam(2, 1, [3, 5], 6)
        standing, move = [0, 1], [2, 1, -1]
        behind, all_moves, back = moved(beam, standing, move), moves(beam, standing), turned(move)
        ahead = list(all_moves)
        standing[1] = 2
        move[2] = 0
        move.clear()
        self.assertEqual((behind, all_moves, back), ((0, -1), ahead, (2, -1, 1)))

    def test_a_start_and_a_goal(self):
        beam = Beam(1, 1, [1, 2, 3], 1)
        start, goal = [-1, 1, 0], [0, -1, 1]
        way, low = fewest(beam, start, goal), least(beam, start, goal)
        ahead = way_fields(way), least_fields(low)
        start[0] = 1
        start.append(4)
        goal.clear()
        self.assertEqual((way_fields(way), least_fields(low)), ahead)
        self.assertEqual(way.layers[0], [(-1, 1, 0)])


class ToldIsTheCallersOwn(BeamCase):
    def test_changed_moves_change_nothing(self):
        for beam in some_beams():
            for standing in standings(beam):
                first, second = moves(beam, standing), moves(beam, standing)
                expected = list(second)
                spoil(first)
                self.assertEqual(second, expected)
                self.assertEqual(moves(beam, standing), expected)

    def test_no_list_of_a_way_is_another_one(self):
        beam = Beam(1, 1, [1, 2, 3], 1)
        for start in keeping(beam):
            for goal in keeping(beam):
                first, second = fewest(beam, start, goal), fewest(beam, start, goal)
                self.assertIsNot(first, second)
                lists = way_lists(first) + way_lists(second)
                self.assertEqual(len({id(told) for told in lists}), len(lists))

    def check_way(self, beam, start, goal, way, promised):
        self.assertEqual(way_promised(way), promised)
        self.assertEqual(len(way.row), way.many or 0)
        self.assertEqual(walked(beam, start, way.row), goal if way.reached else start)
        self.assertEqual(way.again, again_in(way.row))

    def check_least(self, beam, start, goal, told, promised):
        self.assertEqual(least_promised(told), promised)
        self.assertEqual(walked(under(beam, told.limit), start, told.row), goal)

    def test_changed_lists_of_a_way_change_nothing(self):
        # One beam each where goals can be come to, where some can't, and where no start has a move.
        for beam in (Beam(2, 1, [3, 5], 6), Beam(1, 1, [1, 2, 3], 1), Beam(1, 1, [5, 5], 4)):
            for start in keeping(beam):
                for goal in keeping(beam):
                    promised = way_promised(fewest(beam, start, goal))
                    for seat in range(len(way_lists(fewest(beam, start, goal)))):
                        self.check_spoilt_way(beam, start, goal, seat, promised)

    def check_spoilt_way(self, beam, start, goal, seat, promised):
        way, other = fewest(beam, start, goal), fewest(beam, start, goal)
        lists = way_lists(way)
        ahead, other_ahead = [list(told) for told in lists], way_fields(other)
        spoil(lists[seat])
        for place, told in enumerate(lists):
            # Place 1 is the list of the layers themselves: a spoilt layer is to be seen in it.
            if place not in (1, seat):
                self.assertEqual(told, ahead[place])
        self.assertEqual(way_fields(other), other_ahead)
        self.check_way(beam, start, goal, fewest(beam, start, goal), promised)

    def test_changed_lists_of_a_least_limit_change_nothing(self):
        beam = Beam(1, 1, [1, 2, 3], 1)
        for start in standings(beam):
            for goal in standings(beam):
                first, second = least(beam, start, goal), least(beam, start, goal)
                row, expected, promised = list(first.row), least_fields(second), least_promised(second)
                self.assertIsNot(first, second)
                spoil(first.shut)
                self.assertEqual(first.row, row)
                spoil(first.row)
                self.assertEqual(least_fields(second), expected)
                self.check_least(beam, start, goal, least(beam, start, goal), promised)
                self.assertEqual(len({id(told) for told in (first.row, first.shut, second.row, second.shut)}), 4)

    def test_changed_ways_and_moves_change_no_other_question(self):
        beam = Beam(1, 1, [1, 2, 3], 1)
        # From this start just one row has the fewest moves to the goal.
        start, goal, other = (-1, 1, 0), (1, -1, 0), (0, -1, 1)
        ahead = moves(beam, start), next_move(beam, start, goal), least_promised(least(beam, start, other))
        for told in way_lists(fewest(beam, start, goal)) + way_lists(fewest(beam, start, other)) + [moves(beam, start)]:
            spoil(told)
        self.assertEqual(
            (moves(beam, start), next_move(beam, start, goal), least_promised(least(beam, start, other))), ahead)

    def test_changed_trails_change_nothing(self):
        play = Play(Beam(2, 1, [3, 5], 6), [0, 1])
        for made in ([], [(2, 1, -1)], [(2, 1, -1), (1, 0, 2)]):
            if made:
                play.move(made[-1])
            first, second, standing = play.trail(), play.trail(), play.standing
            self.assertIsNot(first, second)
            spoil(first)
            self.assertEqual((second, play.trail(), play.standing), (made, made, standing))
            first.clear()
            self.assertEqual((second, play.trail(), play.standing), (made, made, standing))
        self.assertEqual((play.back(), play.back()), ((1, 0, 2), (2, 1, -1)))

    def test_changed_trails_do_not_fill_or_empty_a_play(self):
        play = Play(Beam(2, 1, [3, 5], 6), [0, 1])
        play.trail().extend([(2, 1, -1)] * 300)
        self.refused(NothingBack, play.back)
        play.move((2, 1, -1))
        play.trail().clear()
        self.assertEqual(play.back(), (2, 1, -1))

    def test_changed_answers_of_a_play_change_nothing(self):
        beam = Beam(1, 1, [1, 2, 3], 1)
        play = Play(beam, [-1, 1, 0])
        play.move((2, 1, 0))
        start = (-1, 0, 0)
        for goal in keeping(beam):
            promised, low_promised = way_promised(play.fewest(goal)), least_promised(play.least(goal))
            for seat in range(len(way_lists(play.fewest(goal)))):
                spoil(way_lists(play.fewest(goal))[seat])
                self.check_way(beam, start, goal, play.fewest(goal), promised)
                self.check_way(beam, start, goal, fewest(beam, start, goal), promised)
            low = play.least(goal)
            spoil(low.row)
            spoil(low.shut)
            self.check_least(beam, start, goal, play.least(goal), low_promised)
            self.assertEqual((play.standing, play.trail()), (start, [(2, 1, 0)]))

    def test_no_list_of_a_play_is_one_of_its_answers(self):
        play = Play(Beam(1, 1, [1, 2, 3], 1), [-1, 1, 0])
        play.move((2, 1, 0))
        lists = [play.trail(), play.trail()]
        for goal in ((-1, 1, 0), (1, -1, 0), (0, -1, 1)):
            low = play.least(goal)
            lists += way_lists(play.fewest(goal)) + [low.row, low.shut]
        self.assertEqual(len({id(told) for told in lists}), len(lists))

    def test_changed_loads_change_nothing(self):
        for beam in some_beams():
            for standing in standings(beam):
                first, second = loads(beam, standing), loads(beam, standing)
                expected = list(second)
                self.assertIsNot(first, second)
                first[0] = 77
                first.append(78)
                self.assertEqual(second, expected)
                self.assertEqual(loads(beam, standing), expected)
                first.clear()
                self.assertEqual(loads(beam, standing), expected)

    def test_changed_loads_change_no_other_beams(self):
        first, second = Beam(2, 1, [5], 10), Beam(2, 1, [5], 10)
        loads(first, [1]).clear()
        loads(first, [0]).append(9)
        self.assertEqual(loads(second, [1]), [0, 0, 0, 1, 0])
        self.assertEqual(loads(second, [0]), [0, 0, 1, 0, 0])

    def test_changed_loads_change_no_other_look(self):
        beam = Beam(2, 1, [5, 3], 10)
        ahead = looks(beam, (2, -1))
        told = loads(beam, (2, -1))
        told.reverse()
        told.append(4)
        self.assertEqual(looks(beam, (2, -1)), ahead)


class NothingIsKept(BeamCase):
    def test_beams_made_twice_are_apart(self):
        first, second = Beam(2, 1, [5, 3], 10), Beam(2, 1, [5, 3], 10)
        self.assertIsNot(first, second)
        self.assertIsNot(under(first, 10), under(first, 10))
        self.assertIsNot(under(first, 10), first)

    def test_plays_made_twice_are_apart(self):
        beam = Beam(2, 1, [3, 5], 6)
        start = [0, 1]
        first, second = Play(beam, start), Play(beam, start)
        self.assertIsNot(first, second)
        first.move((2, 1, -1))
        first.move((1, 0, 2))
        self.assertEqual((second.start, second.standing, second.trail()), ((0, 1), (0, 1), []))
        self.refused(NothingBack, second.back)
        self.assertEqual(second.next_move((0, 0)), (2, 1, 0))
        second.move((2, 1, 0))
        self.assertEqual((first.standing, first.trail()), ((2, -1), [(2, 1, -1), (1, 0, 2)]))
        self.assertEqual(first.back(), (1, 0, 2))
        self.assertEqual((second.standing, second.trail()), ((0, 0), [(2, 1, 0)]))
        third = Play(beam, start)
        self.assertEqual((third.start, third.standing, third.trail()), ((0, 1), (0, 1), []))
        self.assertEqual(fields(beam), (2, 1, (3, 5), 6))

    def test_a_full_play_does_not_fill_another(self):
        beam = Beam(2, 1, [3, 5], 6)
        first, second = Play(beam, [0, 1]), Play(beam, [0, 1])
        for turn in range(150):
            first.move((2, 1, -1))
            first.move((2, -1, 1))
        self.assertEqual(second.move((2, 1, -1)), (0, -1))
        self.assertEqual(Play(beam, [0, 1]).move((2, 1, 0)), (0, 0))

    def test_a_play_goes_on_from_a_way_or_a_standing_that_was_told(self):
        play = Play(Beam(1, 1, [1, 2, 3], 1), [-1, 1, 0])
        way = play.fewest((1, -1, 0))
        ahead = way_fields(way)
        for move in list(way.row):
            play.move(move)
        self.assertEqual(play.standing, (1, -1, 0))
        self.assertEqual(way_fields(way), ahead)

    def test_texts_read_twice_are_apart(self):
        text = "notches 2\nroom 1\nlimit 6\nweight 3 tray\nweight 5 1"
        first, second = read_beam(text), read_beam(text)
        self.assertIsNot(first[0], second[0])
        self.assertEqual((fields(first[0]), first[1]), (fields(second[0]), second[1]))
        play = Play(first[0], first[1])
        play.move(read_move("2 1 -1"))
        self.assertEqual((first[1], read_beam(text)[1]), ((0, 1), (0, 1)))
        self.assertEqual((read_move("2 1 -1"), read_standing(first[0], "tray 1")), ((2, 1, -1), (0, 1)))

    def test_a_standing_asked_at_many_beams(self):
        told = []
        for heft in range(1, 21):
            for limit in (0, heft, 400):
                beam = Beam(1, 1, [heft], limit)
                self.assertEqual((tilt(beam, [1]), tilt(beam, [-1])), (heft, -heft))
                self.assertIs(keeps(beam, [1]), limit >= heft)
                told.append((heft, limit, beam))
        for heft, limit, beam in told:
            self.assertEqual(fields(beam), (1, 1, (heft,), limit))
            self.assertEqual((tilt(beam, [1]), tilt(beam, [-1])), (heft, -heft))
            self.assertIs(keeps(beam, [1]), limit >= heft)

    def test_the_same_row_of_places_at_beams_of_other_room_and_notches(self):
        narrow, wide = Beam(1, 1, [5, 3], 10), Beam(2, 2, [5, 3], 10)
        for turn in range(2):
            self.assertEqual(as_standing(wide, [1, 1]), (1, 1))
            self.refused(BadStanding, as_standing, narrow, [1, 1])
            self.assertEqual(as_standing(wide, [2, 0]), (2, 0))
            self.refused(BadStanding, as_standing, narrow, [2, 0])
            self.assertEqual(loads(wide, [1, 0]), [0, 0, 1, 1, 0])
            self.assertEqual(loads(narrow, [1, 0]), [0, 1, 1])

    def test_the_same_question_at_beams_of_other_limits_and_hefts(self):
        for turn in range(2):
            for limit, many in ((0, None), (1, 3), (400, 3), (0, None)):
                self.assertEqual(fewest(Beam(1, 1, [1, 1], limit), (1, -1), (-1, 1)).many, many)
                self.assertEqual(least(Beam(1, 1, [1, 1], limit), (1, -1), (-1, 1)).limit, 1)
            self.assertEqual(least(Beam(1, 1, [7, 7], 0), (1, -1), (-1, 1)).limit, 7)
            self.assertEqual(moves(Beam(1, 1, [7], 6), [0]), [])
            self.assertEqual(moves(Beam(1, 1, [7], 7), [0]), [(1, 0, -1), (1, 0, 1)])

    def test_a_refusal_leaves_nothing_behind(self):
        beam = Beam(2, 1, [5, 3], 10)
        ahead = looks(beam, [2, -1])
        self.refused(BadBeam, Beam, 5, 1, [5, 3], 10)
        self.refused(BadBeam, under, beam, 401)
        self.refused(BadStanding, tilt, beam, [1, 1])
        self.refused(NoWeight, in_hand, beam, [2, -1], 3)
        self.assertEqual(looks(beam, [2, -1]), ahead)


if __name__ == "__main__":
    unittest.main()
