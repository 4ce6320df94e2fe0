"""Points 22 to 25: how a play is made, its standing and trail, moves and taking back, and a play that is asked."""

import unittest

from beamtender import errors, game
from beamtender.beam import Beam, under
from beamtender.errors import BadStanding, BeamError, GoalPast, NothingBack, NoWay, NoWeight, PlayFull, StartPast
from beamtender.game import Play
from beamtender.layers import Way, fewest, next_move
from beamtender.limits import Least, least
from helping import (
    HUGE, BeamCase, again_in, faults, fields, keeping, let_by, put_at, rows_of_places, some_beams, standings, walked,
)

CLASSES = {
    "no weight": errors.NoWeight, "no place": errors.NoPlace, "same place": errors.SamePlace,
    "no room": errors.NoRoom, "tips in hand": errors.TipsInHand, "tips behind": errors.TipsBehind,
}
# At one standing of one beam a move for each refusal of point 10.
AT_HAND = Beam(3, 1, [5, 3, 8], 10), (0, -1, 1)
REFUSED = (
    ("no weight", (0, 0, 1)), ("no weight", (4, 0, 1)), ("no weight", (1, 1, 2)), ("no weight", (HUGE, 0, 1)),
    ("no place", (1, 0, 4)), ("no place", (3, 1, -4)), ("no place", (1, 0, HUGE)), ("no place", (1, 0, -HUGE)),
    ("same place", (1, 0, 0)), ("same place", (2, -1, -1)),
    ("no room", (1, 0, 1)), ("no room", (3, 1, -1)),
    ("tips behind", (1, 0, 2)), ("tips behind", (3, 1, 3)),
)
TIPS_IN_HAND = Beam(2, 1, [8, 8, 1], 7), (1, -1, 0), (1, 1, 0)


def small_beams():
    told = [
        (1, 1, (), 0), (3, 1, [4], 8), (1, 1, (1, 1), 0), (2, 1, [3, 5], 5), (2, 1, (3, 5), 6), (1, 1, [1, 2, 3], 1),
        (1, 2, (2, 2, 3), 3), (1, 1, [5, 5], 4),
    ]
    return [Beam(notches, room, hefts, limit) for notches, room, hefts, limit in told]


class PlayCase(BeamCase):
    def check_at(self, play, start, standing, trail):
        self.assertIs(type(play.start), tuple)
        self.assertEqual(play.start, tuple(start))
        self.assertIs(type(play.standing), tuple)
        self.assertEqual(play.standing, tuple(standing))
        told = play.trail()
        self.assertIs(type(told), list)
        self.assertEqual(told, trail)
        for move in told:
            self.assertIs(type(move), tuple)

    def walk(self, play, many):
        """Makes that many moves, now this one and now that one, and tells the standings ahead of them."""
        ahead = []
        for turn in range(many):
            ahead.append(play.standing)
            choice = let_by(play.beam, play.standing)
            play.move(choice[turn * 7 % len(choice)])
        return ahead


class Made(PlayCase):
    def test_a_list_and_a_tuple_as_the_start(self):
        beam = Beam(3, 2, [5, 3, 8], 20)
        for start in ([3, -2, 1], (3, -2, 1)):
            play = Play(beam, start)
            self.assertIsInstance(play, Play)
            self.assertIsInstance(play.beam, Beam)
            self.assertEqual(fields(play.beam), fields(beam))
            self.check_at(play, (3, -2, 1), (3, -2, 1), [])

    def test_the_list_changed_afterwards(self):
        start = [3, -2, 1]
        play = Play(Beam(3, 2, [5, 3, 8], 20), start)
        start[0] = 0
        self.check_at(play, (3, -2, 1), (3, -2, 1), [])
        play.move((1, 3, 0))
        start.clear()
        self.check_at(play, (3, -2, 1), (0, -2, 1), [(1, 3, 0)])

    def test_arguments_by_name(self):
        play = Play(beam=Beam(2, 1, [3, 5], 6), start=[0, 1])
        self.assertEqual(play.move(move=[2, 1, -1]), (0, -1))
        self.assertEqual(play.fewest(goal=[0, 1]).many, 1)
        self.assertEqual(play.next_move(goal=[0, 1]), (2, -1, 1))
        self.assertEqual(play.least(goal=[0, 1]).limit, 5)

    def test_past_the_limit(self):
        beam = Beam(2, 1, [3, 5], 9)
        for start in ((0, 2), [0, -2], (2, 1), [-2, -1], (1, 2)):
            self.refused(StartPast, Play, beam, start)

    def test_at_the_limit_and_one_more(self):
        for start, size in (((0, 2), 10), ((0, -2), 10), ((2, 1), 11), ((-1, 2), 7), ((1, -2), 7), ((0, 0), 0)):
            beam = Beam(2, 1, [3, 5], size)
            self.check_at(Play(beam, start), start, start, [])
            if size > 0:
                self.refused(StartPast, Play, under(beam, size - 1), start)

    def test_no_weights(self):
        play = Play(Beam(2, 1, [], 0), [])
        self.check_at(play, (), (), [])
        self.refused(NoWeight, play.move, (1, 0, 1))
        self.assertEqual((play.fewest(()).many, play.next_move([]), play.least(()).limit), (0, None, 0))
        self.check_at(play, (), (), [])

    def test_a_bad_standing_ahead_of_start_past(self):
        # Each tips past the limit, too, or would if its places were ones of the beam.
        beam = Beam(2, 1, [3, 5], 1)
        for start in ((2,), (2, 2), (-2, -2), (2, 1, 0), (3, 0), (0, -3), (HUGE, 0), (0, -HUGE), (2,) * 400):
            self.refused(BadStanding, Play, beam, start)
            self.refused(BadStanding, Play, beam, list(start))

    def test_a_bad_standing_alone(self):
        beam = Beam(2, 1, [3, 5], 400)
        for start in ((), (0,), (0, 0, 0), (1, 1), (3, 0), (0, -3)):
            self.refused(BadStanding, Play, beam, start)

    def test_every_row_of_places_of_some_beams(self):
        for beam in some_beams():
            every, kept = set(standings(beam)), set(keeping(beam))
            for places in rows_of_places(beam, beyond=1):
                if places in kept:
                    self.check_at(Play(beam, places), places, places, [])
                else:
                    self.refused(StartPast if places in every else BadStanding, Play, beam, places)


class Moves(PlayCase):
    def test_made_and_taken_back_one_by_one(self):
        beam = Beam(3, 2, [5, 3, 8], 20)
        start = (3, -2, 1)
        row = [(1, 3, 0), (3, 1, -1), (1, 0, 3), (2, -2, 0), (2, 0, -1)]
        behind = [(0, -2, 1), (0, -2, -1), (3, -2, -1), (3, 0, -1), (3, -1, -1)]
        for form in (tuple, list):
            play = Play(beam, start)
            for seat, move in enumerate(row):
                told = play.move(form(move))
                self.assertIs(type(told), tuple)
                self.assertEqual(told, behind[seat])
                self.check_at(play, start, behind[seat], row[:seat + 1])
            self.refused(errors.TipsBehind, play.move, form((1, 3, -3)))
            for seat in (4, 3, 2, 1, 0):
                told = play.back()
                self.assertIs(type(told), tuple)
                self.assertEqual(told, row[seat])
                self.check_at(play, start, ([start] + behind)[seat], row[:seat])

    def test_long_rows_at_some_beams(self):
        for beam in some_beams():
            start = keeping(beam)[len(keeping(beam)) // 3]
            if not let_by(beam, start):
                continue
            play = Play(beam, start)
            ahead = self.walk(play, 40)
            trail = play.trail()
            self.assertEqual(len(trail), 40)
            for seat in range(41):
                self.assertEqual(walked(beam, start, trail[:seat]), (ahead + [play.standing])[seat])
            for seat in reversed(range(40)):
                self.assertEqual(play.back(), trail[seat])
                self.check_at(play, start, ahead[seat], trail[:seat])

    def test_a_move_changed_afterwards(self):
        play = Play(Beam(2, 1, [3, 5], 6), [0, 1])
        move = [2, 1, -1]
        play.move(move)
        move[2] = 0
        self.check_at(play, (0, 1), (0, -1), [(2, 1, -1)])
        move.clear()
        self.assertEqual(play.back(), (2, 1, -1))
        self.check_at(play, (0, 1), (0, 1), [])

    def test_moves_behind_taking_back(self):
        play = Play(Beam(2, 1, [3, 5], 6), [0, 1])
        play.move((2, 1, -1))
        play.move((1, 0, 2))
        play.back()
        self.assertEqual(play.move((1, 0, 1)), (1, -1))
        self.check_at(play, (0, 1), (1, -1), [(2, 1, -1), (1, 0, 1)])
        self.assertEqual((play.back(), play.back()), ((1, 0, 1), (2, 1, -1)))
        self.check_at(play, (0, 1), (0, 1), [])

    def test_a_move_and_the_turned_one_both_stand_in_the_trail(self):
        play = Play(Beam(2, 1, [3, 5], 6), [0, 1])
        play.move((2, 1, -1))
        play.move((2, -1, 1))
        self.check_at(play, (0, 1), (0, 1), [(2, 1, -1), (2, -1, 1)])

    def test_each_refusal(self):
        beam, start = AT_HAND
        self.assertEqual({word for word, move in REFUSED} | {"tips in hand"}, set(CLASSES))
        for word, move in REFUSED:
            self.assertEqual(faults(beam, start, move)[0], word)
            for handed in (move, list(move)):
                play = Play(beam, start)
                self.refused(CLASSES[word], play.move, handed)
                self.check_at(play, start, start, [])
                self.refused(NothingBack, play.back)

    def test_each_refusal_with_moves_in_the_trail(self):
        beam, start = AT_HAND
        trail = [(1, 0, -1), (2, 0, 2), (2, 2, 0), (1, -1, 0), (2, 0, -1)]
        for word, move in REFUSED:
            play = Play(beam, (0, 0, 1))
            for made in trail:
                play.move(made)
            self.refused(CLASSES[word], play.move, move)
            self.check_at(play, (0, 0, 1), start, trail)
            self.assertEqual(play.back(), (2, 0, -1))
            self.check_at(play, (0, 0, 1), (0, 0, 1), trail[:4])

    def test_tips_in_hand(self):
        beam, start, move = TIPS_IN_HAND
        self.assertEqual(faults(beam, start, move)[0], "tips in hand")
        play = Play(beam, start)
        play.move((3, 0, -2))
        self.refused(errors.TipsInHand, play.move, move)
        self.check_at(play, start, (1, -1, -2), [(3, 0, -2)])

    def test_every_move_at_every_standing_of_small_beams(self):
        for beam in small_beams():
            places = range(-beam.notches - 1, beam.notches + 2)
            tried = [(weight, taken, put) for weight in range(5) for taken in places for put in places]
            for start in keeping(beam):
                play = Play(beam, start)
                for move in tried:
                    words = faults(beam, start, move)
                    if words:
                        self.refused(CLASSES[words[0]], play.move, move)
                    else:
                        self.assertEqual(play.move(move), put_at(start, move[0], move[2]))
                        self.assertEqual(play.back(), move)
                    self.assertEqual((play.standing, play.trail()), (start, []))


class Full(PlayCase):
    def full(self):
        beam, start = AT_HAND
        play = Play(beam, start)
        for turn in range(150):
            play.move((1, 0, -2))
            play.move((1, -2, 0))
        return play

    def test_the_bound_is_told(self):
        self.assertEqual(game.MOST_MOVES, 300)

    def test_the_last_move_that_has_room(self):
        play = self.full()
        self.assertEqual(len(play.trail()), 300)
        play.back()
        self.assertEqual(len(play.trail()), 299)
        self.assertEqual(play.move((1, -2, 0)), (0, -1, 1))
        self.assertEqual(len(play.trail()), 300)

    def test_one_more_is_refused(self):
        play = self.full()
        trail = [(1, 0, -2), (1, -2, 0)] * 150
        for move in ((1, 0, -2), [1, 0, -2], (2, -1, 0), (3, 1, 0)):
            self.refused(PlayFull, play.move, move)
            self.check_at(play, AT_HAND[1], (0, -1, 1), trail)

    def test_ahead_of_every_other_refusal(self):
        play = self.full()
        for word, move in REFUSED:
            self.refused(PlayFull, play.move, move)
        self.check_at(play, AT_HAND[1], (0, -1, 1), [(1, 0, -2), (1, -2, 0)] * 150)
        beam, start, move = TIPS_IN_HAND
        play = Play(beam, start)
        for turn in range(150):
            play.move((3, 0, -2))
            play.move((3, -2, 0))
        self.refused(PlayFull, play.move, move)
        play.back()
        self.refused(errors.TipsInHand, play.move, move)

    def test_one_taken_back_and_one_made_again(self):
        play = self.full()
        for turn in range(3):
            self.refused(PlayFull, play.move, (1, 0, -2))
            self.assertEqual(play.back(), (1, -2, 0))
            self.refused(NoWeight, play.move, (1, 0, -2))
            self.assertEqual(play.move((1, -2, 0)), (0, -1, 1))
        self.refused(PlayFull, play.move, (1, 0, -2))
        self.assertEqual(len(play.trail()), 300)

    def test_only_moves_of_the_trail_count(self):
        beam, start = AT_HAND
        play = Play(beam, start)
        for turn in range(310):
            play.move((1, 0, -2))
            play.back()
            self.refused(NoWeight, play.move, (4, 0, 1))
        self.check_at(play, start, start, [])
        play.move((1, 0, -2))

    def test_all_taken_back_and_made_again(self):
        play = self.full()
        for turn in range(300):
            play.back()
        self.check_at(play, AT_HAND[1], AT_HAND[1], [])
        self.refused(NothingBack, play.back)
        for turn in range(150):
            play.move((1, 0, -2))
            play.move((1, -2, 0))
        self.refused(PlayFull, play.move, (1, 0, -2))

    def test_a_full_play_is_still_asked(self):
        play = self.full()
        goal = (0, -1, 0)
        self.assertEqual((play.fewest(goal).many, play.next_move(goal)), (1, (3, 1, 0)))
        self.assertEqual(len(play.least(goal).row), 1)
        self.assertEqual(len(play.trail()), 300)


class Back(PlayCase):
    def test_an_empty_trail(self):
        play = Play(Beam(2, 1, [3, 5], 6), [0, 1])
        for turn in range(3):
            self.refused(NothingBack, play.back)
            self.check_at(play, (0, 1), (0, 1), [])

    def test_behind_moves_that_were_all_taken_back(self):
        play = Play(Beam(2, 1, [3, 5], 6), [0, 1])
        play.move((2, 1, -1))
        play.move((1, 0, 2))
        self.assertEqual(play.back(), (1, 0, 2))
        self.assertEqual(play.back(), (2, 1, -1))
        for turn in range(2):
            self.refused(NothingBack, play.back)
            self.check_at(play, (0, 1), (0, 1), [])
        self.assertEqual(play.move((2, 1, 0)), (0, 0))
        self.check_at(play, (0, 1), (0, 0), [(2, 1, 0)])

    def test_behind_a_refusal(self):
        play = Play(Beam(2, 1, [3, 5], 6), [0, 1])
        self.refused(NoWeight, play.move, (3, 0, 1))
        self.refused(NothingBack, play.back)


class Asked(PlayCase):
    def check_way(self, beam, standing, goal, told):
        other = fewest(beam, standing, goal)
        self.assertIsInstance(told, Way)
        self.assertEqual((told.reached, told.many, told.layers, told.shut),
                         (other.reached, other.many, other.layers, other.shut))
        self.assertEqual(len(told.row), len(other.row))
        self.assertEqual(told.again, again_in(told.row))
        if told.reached:
            self.assertEqual(walked(beam, standing, told.row), goal)

    def check_next(self, beam, standing, goal, told):
        if standing == goal:
            self.assertIsNone(told)
            return
        self.assertIs(type(told), tuple)
        behind = walked(beam, standing, [told])
        self.assertEqual(fewest(beam, behind, goal).many, fewest(beam, standing, goal).many - 1)

    def check_least(self, beam, standing, goal, told):
        other = least(beam, standing, goal)
        self.assertIsInstance(told, Least)
        self.assertEqual((told.limit, told.shut, len(told.row)), (other.limit, other.shut, len(other.row)))
        self.assertEqual(walked(under(beam, told.limit), standing, told.row), tuple(goal))

    def refusal_of(self, ask, *handed):
        try:
            ask(*handed)
        except BeamError as refused:
            return type(refused)
        return None

    def check_questions(self, play, goal):
        """Holds the play's answers against those of the functions; tells the refusals, None where there is none."""
        beam, standing, trail = play.beam, play.standing, play.trail()
        found = []
        for ask, function, check in (
            (play.fewest, fewest, self.check_way), (play.next_move, next_move, self.check_next),
            (play.least, least, self.check_least),
        ):
            error = self.refusal_of(function, beam, standing, goal)
            found.append(error)
            for handed in (tuple(goal), list(goal)):
                if error is None:
                    check(beam, standing, tuple(goal), ask(handed))
                else:
                    self.refused(error, ask, handed)
                self.assertEqual(handed, type(handed)(goal))
            self.assertEqual((play.standing, play.trail()), (standing, trail))
        return found

    def test_every_goal_from_every_standing_of_small_beams(self):
        found = set()
        for beam in small_beams():
            for start in keeping(beam):
                play = Play(beam, start)
                for goal in standings(beam):
                    found |= set(self.check_questions(play, goal))
                self.check_at(play, start, start, [])
        self.assertEqual(found, {None, GoalPast, NoWay})

    def test_from_the_standing_at_hand_and_not_from_the_start(self):
        for beam in small_beams():
            for start in keeping(beam)[::3]:
                play = Play(beam, start)
                for turn in range(4):
                    for goal in standings(beam)[::2]:
                        self.check_questions(play, goal)
                    choice = [move for move in let_by(beam, play.standing)
                              if put_at(play.standing, move[0], move[2]) != start]
                    if choice:
                        play.move(choice[turn % len(choice)])
                self.assertEqual(play.start, start)

    def test_ordinary_questions(self):
        play = Play(Beam(1, 1, [1, 2, 3], 1), [-1, 1, 0])
        self.assertEqual(play.fewest((1, -1, 0)).many, 3)
        self.assertEqual(play.next_move((1, -1, 0)), (2, 1, 0))
        self.assertEqual(play.move((2, 1, 0)), (-1, 0, 0))
        self.assertEqual(play.fewest([1, -1, 0]).row, [(1, -1, 1), (2, 0, -1)])
        self.assertEqual(play.next_move([1, -1, 0]), (1, -1, 1))
        way = play.fewest((0, -1, 1))
        self.assertEqual((way.reached, way.many, way.row, way.again), (False, None, [], []))
        self.assertEqual(way.shut, [(-1, 0, 0), (-1, 1, 0), (0, 0, 0), (1, -1, 0), (1, 0, 0)])
        self.refused(NoWay, play.next_move, (0, -1, 1))
        self.assertEqual((play.least((0, -1, 1)).limit, play.least((-1, 0, 0)).limit), (2, 1))
        self.check_at(play, (-1, 1, 0), (-1, 0, 0), [(2, 1, 0)])

    def test_the_goal_at_hand(self):
        play = Play(Beam(2, 1, [3, 5], 6), [0, 1])
        play.move((2, 1, -1))
        for goal in ((0, -1), [0, -1]):
            way = play.fewest(goal)
            self.assertEqual((way.reached, way.many, way.row, way.layers), (True, 0, [], [[(0, -1)]]))
            self.assertIsNone(play.next_move(goal))
            low = play.least(goal)
            self.assertEqual((low.limit, low.row, low.shut), (5, [], []))
        self.assertEqual(play.next_move((0, 1)), (2, -1, 1))

    def test_goals_past_the_limit(self):
        play = Play(Beam(2, 1, [3, 5], 6), [0, 1])
        for goal in ((0, 2), (0, -2), (-1, 2), [1, -2]):
            self.refused(GoalPast, play.fewest, goal)
            self.refused(GoalPast, play.next_move, goal)
        self.assertEqual((play.least((0, 2)).limit, play.least([1, -2]).limit), (10, 7))
        self.check_at(play, (0, 1), (0, 1), [])

    def test_places_that_are_no_standing(self):
        play = Play(Beam(2, 1, [3, 5], 4), [-1, 1])
        for goal in ((), (0,), (0, 0, 0), (1, 1), (2, 2), (3, 0), (0, -3), (HUGE, 0), (0, -HUGE), (0,) * 400):
            self.assertEqual(self.check_questions(play, goal), [BadStanding] * 3)
        self.check_at(play, (-1, 1), (-1, 1), [])


if __name__ == "__main__":
    unittest.main()
