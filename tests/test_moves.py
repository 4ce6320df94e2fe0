"""Points 9 to 13: what a move is, which are let by, the standing behind one, the moves of a standing, a move turned."""

import unittest

from beamtender import errors
from beamtender.beam import Beam, under
from beamtender.looks import keeps
from beamtender.moves import moved, moves, refusal, turned
from helping import HUGE, BeamCase, faults, keeping, let_by, put_at, some_beams, standings

CLASSES = {
    "no weight": errors.NoWeight, "no place": errors.NoPlace, "same place": errors.SamePlace,
    "no room": errors.NoRoom, "tips in hand": errors.TipsInHand, "tips behind": errors.TipsBehind,
}


def small_beams():
    told = [
        (1, 1, (), 0), (1, 1, [7], 6), (1, 1, (7,), 7), (3, 1, [4], 8),
        (2, 1, (3, 5), 4), (2, 2, [3, 3], 6), (3, 1, (2, 5), 9), (1, 1, [1, 2, 3], 1), (1, 2, (2, 2, 3), 3),
        (1, 2, [1, 1, 2, 3], 2), (1, 3, (5, 4, 3, 2), 400), (2, 1, [2, 3, 4], 3),
    ]
    return [Beam(notches, room, hefts, limit) for notches, room, hefts, limit in told]


class MoveCase(BeamCase):
    def forms(self, standing, move):
        for places in (tuple(standing), list(standing)):
            for handed in (tuple(move), list(move)):
                yield places, handed

    def let_by(self, beam, standing, move):
        self.assertEqual(faults(beam, standing, move), [])
        for places, handed in self.forms(standing, move):
            with self.subTest(standing=places, move=handed):
                self.assertIsNone(refusal(beam, places, handed))
                told = moved(beam, places, handed)
                self.assertIs(type(told), tuple)
                self.assertEqual(told, put_at(standing, move[0], move[2]))
        self.assertIn(tuple(move), moves(beam, standing))

    def refused_by(self, word, beam, standing, move):
        for places, handed in self.forms(standing, move):
            with self.subTest(standing=places, move=handed):
                self.assertEqual(refusal(beam, places, handed), word)
                self.refused(CLASSES[word], moved, beam, places, handed)
        self.assertNotIn(tuple(move), moves(beam, standing))

    def refused_alone(self, word, beam, standing, move):
        self.assertEqual(faults(beam, standing, move), [word])
        self.refused_by(word, beam, standing, move)

    def refused_first(self, words, beam, standing, move):
        self.assertEqual(faults(beam, standing, move), words)
        self.refused_by(words[0], beam, standing, move)


class LetBy(MoveCase):
    def test_ordinary_moves(self):
        beam = Beam(3, 2, [5, 3, 8], 20)
        self.let_by(beam, (0, 0, 0), (1, 0, 3))
        self.let_by(beam, (3, -2, 1), (3, 1, 0))
        self.let_by(beam, (3, -2, 1), (1, 3, -1))
        self.let_by(beam, (2, 0, -1), (2, 0, 2))

    def test_arguments_by_name(self):
        beam = Beam(3, 2, [5, 3, 8], 20)
        standing = [3, -2, 1]
        self.assertIsNone(refusal(beam=beam, standing=standing, move=[1, 3, 0]))
        self.assertEqual(moved(beam=beam, standing=standing, move=[1, 3, 0]), (0, -2, 1))
        self.assertEqual(len(moves(beam=beam, standing=standing)), len(let_by(beam, standing)))
        self.assertEqual(turned(move=[1, 3, 0]), (1, 0, 3))

    def test_the_standing_ahead_may_be_past_the_limit(self):
        beam = Beam(4, 1, [20, 5], 10)
        for standing, move in (((4, 1), (1, 4, 0)), ((-4, -2), (1, -4, 0)), ((1, 2), (1, 1, -1))):
            self.assertIs(keeps(beam, standing), False)
            self.let_by(beam, standing, move)

    def test_every_other_weight_lies_where_it_lay(self):
        beam = Beam(1, 3, [1, 2, 3, 4, 5], 400)
        for weight in range(1, 6):
            for put in (-1, 1):
                expected = [0] * 5
                expected[weight - 1] = put
                self.assertEqual(moved(beam, [0] * 5, [weight, 0, put]), tuple(expected))

    def test_the_tray_takes_all_weights(self):
        for room in (1, 2, 3):
            for weights in range(1, 6):
                beam = Beam(1, room, [1] * weights, 400)
                for weight in range(1, weights + 1):
                    for place in (-1, 1):
                        self.let_by(beam, put_at((0,) * weights, weight, place), (weight, place, 0))

    def test_a_notch_with_one_less_than_its_room(self):
        for room in (1, 2, 3):
            beam = Beam(2, room, [1, 1, 1, 1], 400)
            for place in (-2, -1, 1, 2):
                self.let_by(beam, [place] * (room - 1) + [0] * (5 - room), (4, 0, place))

    def test_a_tilt_in_the_hand_at_the_limit_and_one_more(self):
        for place in (-2, 2):
            beam = Beam(2, 1, [3, 5], 10)
            # The weight is put to the other side, so the tilt behind is nearer to level than that in the hand.
            move = (1, 0, -place // 2)
            self.let_by(beam, (0, place), move)
            self.refused_alone("tips in hand", under(beam, 9), (0, place), move)
            self.let_by(beam, (place // 2, place), (1, place // 2, 0))
            self.refused_first(["tips in hand", "tips behind"], under(beam, 9), (place // 2, place),
                               (1, place // 2, 0))

    def test_a_tilt_behind_at_the_limit_and_one_more(self):
        for place in (-2, 2):
            beam = Beam(2, 1, [3, 5], 11)
            self.let_by(beam, (0, place // 2), (1, 0, place))
            self.refused_alone("tips behind", under(beam, 10), (0, place // 2), (1, 0, place))

    def test_limit_nought(self):
        beam = Beam(2, 1, [4, 2], 0)
        self.let_by(beam, (1, 0), (1, 1, 0))
        self.refused_alone("tips behind", beam, (1, 0), (1, 1, -1))
        self.refused_alone("tips in hand", beam, (1, 0), (2, 0, -2))
        self.refused_first(["tips in hand", "tips behind"], beam, (1, -2), (1, 1, 0))


class Refused(MoveCase):
    def test_each_alone(self):
        beam = Beam(3, 1, [5, 3, 8], 20)
        self.refused_alone("no weight", beam, (1, -1, 0), (4, 0, 2))
        self.refused_alone("no weight", beam, (1, -1, 0), (1, 0, 2))
        self.refused_alone("no weight", beam, (1, -1, 0), (1, -1, 2))
        self.refused_alone("no weight", beam, (1, -1, 0), (3, 1, 2))
        self.refused_alone("no place", under(beam, 40), (1, -1, 0), (1, 1, 4))
        self.refused_alone("no place", under(beam, 40), (1, -1, 0), (1, 1, -4))
        self.refused_alone("same place", beam, (1, -1, 0), (3, 0, 0))
        self.refused_alone("same place", Beam(3, 2, [5, 3, 8], 20), (1, -1, 0), (1, 1, 1))
        self.refused_alone("no room", beam, (1, -1, 0), (3, 0, 1))
        self.refused_alone("tips in hand", beam, (0, 0, 3), (1, 0, -1))
        self.refused_alone("tips behind", beam, (0, 0, 0), (3, 0, 3))

    def test_no_weight_ahead_of_no_place(self):
        beam = Beam(3, 1, [5, 3, 8], 400)
        self.refused_first(["no weight", "no place"], beam, (1, -1, 0), (4, 0, 4))
        self.refused_first(["no weight", "no place"], beam, (1, -1, 0), (0, 0, -4))
        self.refused_first(["no weight", "no place"], beam, (1, -1, 0), (1, 0, 4))

    def test_no_weight_ahead_of_same_place(self):
        beam = Beam(3, 2, [5, 3, 8], 400)
        self.refused_first(["no weight", "same place"], beam, (1, -1, 0), (1, 2, 1))
        # No place of the beam and the same place can't both be so of a weight that lies where it is taken from.
        self.refused_first(["no weight", "no place"], beam, (1, -1, 0), (1, 4, 4))
        self.refused_alone("no weight", beam, (1, -1, 0), (1, 2, 2))

    def test_no_place_ahead_of_the_tilts(self):
        beam = Beam(3, 1, [5, 3, 8], 20)
        self.refused_first(["no place", "tips behind"], beam, (0, 0, 0), (3, 0, 4))
        self.refused_first(["no place", "tips in hand"], beam, (0, 0, 3), (1, 0, -4))
        self.refused_first(["no place", "tips in hand", "tips behind"], beam, (0, 0, 3), (1, 0, 4))

    def test_same_place_ahead_of_no_room(self):
        self.refused_first(["same place", "no room"], Beam(3, 1, [5, 3, 8], 20), (1, -1, 0), (1, 1, 1))
        self.refused_first(["same place", "no room"], Beam(3, 2, [5, 3, 8], 20), (1, 1, 0), (2, 1, 1))
        self.refused_first(["same place", "no room", "tips in hand", "tips behind"], Beam(3, 1, [5, 3, 8], 2),
                           (0, 1, -1), (2, 1, 1))

    def test_no_room_ahead_of_tips_in_hand(self):
        beam = Beam(3, 1, [5, 3, 8], 20)
        self.refused_first(["no room", "tips in hand"], Beam(3, 1, [5, 3, 8], 10), (-1, 0, 2), (2, 0, -1))
        self.refused_first(["no room", "tips in hand", "tips behind"], beam, (0, 0, 3), (1, 0, 3))
        self.refused_first(["no room", "tips behind"], beam, (0, 0, 2), (1, 0, 2))

    def test_tips_in_hand_ahead_of_tips_behind(self):
        beam = Beam(3, 1, [5, 3, 8], 20)
        self.refused_first(["tips in hand", "tips behind"], beam, (0, 0, 3), (1, 0, 1))
        self.refused_first(["tips in hand", "tips behind"], beam, (0, 0, -3), (2, 0, -1))

    def test_a_notch_with_its_room_of_weights(self):
        for room in (1, 2, 3):
            beam = Beam(2, room, [1, 1, 1, 1], 400)
            for place in (-2, -1, 1, 2):
                self.refused_alone("no room", beam, [place] * room + [0] * (4 - room), (4, 0, place))
                self.refused_alone("no room", beam, [0] * (4 - room) + [place] * room, (1, 0, place))

    def test_numbers_of_weights(self):
        for weights in range(6):
            beam = Beam(1, 3, [7] * weights, 400)
            standing = (0,) * weights
            for weight in (0, weights + 1, -1, -weights, HUGE, -HUGE):
                if not 1 <= weight <= weights:
                    self.refused_by("no weight", beam, standing, (weight, 0, 1))
            if weights:
                self.let_by(beam, standing, (1, 0, 1))
                self.let_by(beam, standing, (weights, 0, 1))

    def test_places_from_which(self):
        for notches in (1, 2, 3, 4):
            beam = Beam(notches, 1, [1, 1], 400)
            for taken in (-notches - 1, notches + 1, HUGE, -HUGE, -1, 1):
                self.refused_by("no weight", beam, (0, 0), (2, taken, 1))
                self.refused_by("no weight", beam, (0, 0), (2, taken, 0))
                self.refused_by("no weight", beam, (0, 0), (2, taken, taken))

    def test_places_to_which(self):
        for notches in (1, 2, 3, 4):
            beam = Beam(notches, 1, [1, 1], 400)
            for put in (-notches - 1, notches + 1, HUGE, -HUGE):
                self.refused_by("no place", beam, (0, 1), (1, 0, put))
                self.refused_by("no place", beam, (0, 1), (2, 1, put))
                self.refused_by("no place", under(beam, 0), (0, 1), (1, 0, put))
            for put in (-notches, notches):
                self.let_by(beam, (0, 0), (1, 0, put))

    def test_every_move_at_every_standing_of_small_beams(self):
        for beam in small_beams():
            numbers = range(-1, len(beam.hefts) + 2)
            places = range(-beam.notches - 1, beam.notches + 2)
            tried = [(weight, taken, put) for weight in numbers for taken in places for put in places]
            for standing in standings(beam):
                for move in tried:
                    words = faults(beam, standing, move)
                    self.assertEqual(refusal(beam, standing, move), words[0] if words else None)
                    if words:
                        self.refused(CLASSES[words[0]], moved, beam, standing, move)
                    else:
                        self.assertEqual(moved(beam, standing, move), put_at(standing, move[0], move[2]))


class MovesOfAStanding(MoveCase):
    def test_an_ordinary_standing(self):
        beam = Beam(2, 1, [3, 5], 6)
        self.assertEqual(moves(beam, [0, 1]), [(1, 0, -2), (1, 0, -1), (2, 1, -1), (2, 1, 0)])
        self.assertEqual(moves(beam, (0, 0)), [(1, 0, -2), (1, 0, -1), (1, 0, 1), (1, 0, 2), (2, 0, -1), (2, 0, 1)])

    def test_no_weights(self):
        self.assertEqual(moves(Beam(2, 1, [], 400), ()), [])

    def test_no_move_let_by(self):
        self.assertEqual(moves(Beam(1, 1, [5, 5], 4), (1, -1)), [])

    def test_from_a_standing_past_the_limit(self):
        self.assertEqual(moves(Beam(2, 1, [3, 5], 6), [0, 2]), [(2, 2, -1), (2, 2, 0), (2, 2, 1)])

    def test_every_standing_of_some_beams(self):
        for beam in some_beams() + small_beams():
            for standing in standings(beam):
                told = moves(beam, standing)
                self.assertIs(type(told), list)
                self.assertEqual(told, let_by(beam, standing))
                self.assertEqual(moves(beam, list(standing)), told)
                for move in told:
                    self.assertIs(type(move), tuple)
                    self.assertEqual([type(number) for number in move], [int, int, int])

    def test_they_rise_and_are_just_those_that_are_not_refused(self):
        for beam in small_beams():
            places = range(-beam.notches - 1, beam.notches + 2)
            tried = [(weight, taken, put) for weight in range(7) for taken in places for put in places]
            for standing in standings(beam):
                told = moves(beam, standing)
                order = [(weight, put) for weight, taken, put in told]
                self.assertEqual(order, sorted(set(order)))
                self.assertEqual(told, [move for move in tried if refusal(beam, standing, move) is None])


class Turned(MoveCase):
    def test_ordinary_moves(self):
        for handed in ([2, 0, -3], (2, 0, -3)):
            told = turned(handed)
            self.assertIs(type(told), tuple)
            self.assertEqual(told, (2, -3, 0))
        self.assertEqual(turned((5, 1, 1)), (5, 1, 1))

    def test_no_beam_is_asked(self):
        self.assertEqual(turned([HUGE, -HUGE, 0]), (HUGE, 0, -HUGE))
        self.assertEqual(turned((-1, 9, -9)), (-1, -9, 9))

    def test_it_leads_back(self):
        for beam in some_beams() + small_beams():
            for standing in keeping(beam):
                for move in moves(beam, standing):
                    behind = moved(beam, standing, move)
                    self.assertEqual(turned(turned(move)), move)
                    self.assertIsNone(refusal(beam, behind, turned(move)))
                    self.assertEqual(moved(beam, behind, turned(move)), standing)
                    self.assertIn(turned(move), moves(beam, behind))

    def test_it_does_not_lead_back_past_the_limit(self):
        beam = Beam(4, 1, [20, 5], 10)
        behind = moved(beam, (4, 1), (1, 4, 0))
        self.refused_alone("tips behind", beam, behind, turned((1, 4, 0)))


if __name__ == "__main__":
    unittest.main()
