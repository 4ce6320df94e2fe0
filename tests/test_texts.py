"""Points 26 to 29: plain numbers and places, and the texts of standings, of moves and of beams with a standing."""

import itertools
import unittest

from beamtender.beam import Beam, under
from beamtender.errors import BadBeam, BadStanding, BadText
from beamtender.texts import read_beam, read_move, read_standing, write_beam, write_move, write_standing
from helping import (
    HUGE, NO_NUMBERS, NO_PLACES, NUMBERS, PLACES, BeamCase, beam_text, fields, move_text, some_beams, standing_text,
    standings,
)


def small_beams():
    told = [
        (1, 1, (), 0), (4, 2, [], 400), (4, 1, [20], 0), (2, 1, (3, 5), 4), (3, 2, [1, 1], 400), (2, 2, (2, 3, 4), 5),
        (1, 2, [1, 2, 3, 4], 2), (1, 3, (5, 4, 3, 2, 1), 3),
    ]
    return [Beam(notches, room, hefts, limit) for notches, room, hefts, limit in told]


def spoilt(text):
    """The text with a blank more, a blank less or a line feed, at each seat of it where that can be."""
    found = [" " + text, text + " ", "\n" + text, text + "\n", text.replace(" ", ", ")]
    for seat, sign in enumerate(text):
        if sign == " ":
            found += [text[:seat] + text[seat + 1:], text[:seat] + " " + text[seat:]]
            found += [text[:seat] + "\n" + text[seat + 1:]]
    return [other for other in found if other != text]


class TextCase(BeamCase):
    def no_text(self, read, *handed):
        with self.subTest(read=read.__name__, handed=handed[-1]):
            self.refused(BadText, read, *handed)


class Numbers(TextCase):
    def test_the_number_of_a_weight_in_a_move(self):
        for text, number in NUMBERS.items():
            self.assertEqual(read_move(text + " tray 1"), (number, 0, 1))
        for text in NO_NUMBERS:
            self.no_text(read_move, text + " tray 1")

    def test_the_numbers_of_a_beam(self):
        for text in NO_NUMBERS:
            self.no_text(read_beam, f"notches {text}\nroom 1\nlimit 9\nweight 5 1")
            self.no_text(read_beam, f"notches 2\nroom {text}\nlimit 9\nweight 5 1")
            self.no_text(read_beam, f"notches 2\nroom 1\nlimit {text}\nweight 5 1")
            self.no_text(read_beam, f"notches 2\nroom 1\nlimit 9\nweight {text} 1")
            self.no_text(read_beam, f"notches 2\nroom 1\nlimit 9\nweight 5 1\nweight {text} -1")

    def check_beam(self, text, taken, hefts, numbers):
        with self.subTest(text=text):
            if taken:
                beam, standing = read_beam(text)
                self.assertEqual((beam.notches, beam.room, beam.limit, beam.hefts, standing), numbers + (hefts, (1,)))
            else:
                self.refused(BadBeam, read_beam, text)

    def test_plain_numbers_of_a_beam_are_read(self):
        for text, number in NUMBERS.items():
            self.check_beam(f"notches {text}\nroom 1\nlimit 9\nweight 5 1", 1 <= number <= 4, (5,), (number, 1, 9))
            self.check_beam(f"notches 2\nroom {text}\nlimit 9\nweight 5 1", 1 <= number <= 3, (5,), (2, number, 9))
            self.check_beam(f"notches 2\nroom 1\nlimit {text}\nweight 5 1", number <= 400, (5,), (2, 1, number))
            self.check_beam(f"notches 2\nroom 1\nlimit 9\nweight {text} 1", 1 <= number <= 20, (number,), (2, 1, 9))


class Places(TextCase):
    def test_places_in_a_move(self):
        for text, place in PLACES.items():
            self.assertEqual(read_move(f"1 {text} tray"), (1, place, 0))
            self.assertEqual(read_move(f"1 -2 {text}"), (1, -2, place))
        for text in NO_PLACES:
            self.no_text(read_move, f"1 {text} tray")
            self.no_text(read_move, f"1 tray {text}")

    def test_places_in_a_standing(self):
        alone, beam = Beam(4, 1, [5], 9), Beam(4, 1, [5, 3, 8], 9)
        for text, place in PLACES.items():
            if abs(place) <= 4:
                self.assertEqual(read_standing(alone, text), (place,))
                self.assertEqual(read_standing(beam, f"tray {text} 4"), (0, place, 4))
            else:
                self.refused(BadStanding, read_standing, alone, text)
                self.refused(BadStanding, read_standing, beam, f"tray {text} 4")
        for text in NO_PLACES:
            # For one weight `none` is a standing's text, though none of that beam's.
            if text != "none":
                self.no_text(read_standing, alone, text)
            self.no_text(read_standing, beam, f"{text} tray 4")
            self.no_text(read_standing, beam, f"tray {text} 4")
            self.no_text(read_standing, beam, f"tray 4 {text}")

    def test_places_in_a_beam(self):
        for text, place in PLACES.items():
            written = f"notches 4\nroom 1\nlimit 9\nweight 5 {text}\nweight 3 2"
            if abs(place) <= 4:
                self.assertEqual(read_beam(written)[1], (place, 2))
            else:
                self.refused(BadStanding, read_beam, written)
        for text in NO_PLACES:
            self.no_text(read_beam, f"notches 4\nroom 1\nlimit 9\nweight 5 {text}")
            self.no_text(read_beam, f"notches 4\nroom 1\nlimit 9\nweight 5 {text}\nweight 3 2")
            self.no_text(read_beam, f"notches 4\nroom 1\nlimit 9\nweight 3 2\nweight 5 {text}")


class Standings(TextCase):
    def test_ordinary_standings(self):
        beam = Beam(3, 2, [5, 3, 8], 20)
        self.assertEqual(write_standing(beam, (3, -2, 1)), "3 -2 1")
        self.assertEqual(write_standing(beam, [0, 0, -3]), "tray tray -3")
        self.assertEqual(read_standing(beam, "3 -2 1"), (3, -2, 1))
        self.assertEqual(read_standing(beam, "tray tray -3"), (0, 0, -3))
        self.assertEqual(write_standing(Beam(1, 1, [5], 0), [0]), "tray")
        self.assertEqual(read_standing(Beam(1, 1, [5], 0), "-1"), (-1,))

    def test_arguments_by_name(self):
        beam = Beam(3, 2, [5, 3, 8], 20)
        self.assertEqual(write_standing(beam=beam, standing=[3, -2, 0]), "3 -2 tray")
        self.assertEqual(read_standing(beam=beam, text="3 -2 tray"), (3, -2, 0))

    def test_written_and_read_back(self):
        for beam in small_beams():
            for standing in standings(beam):
                for handed in (standing, list(standing)):
                    text = write_standing(beam, handed)
                    self.assertIs(type(text), str)
                    self.assertEqual(text, standing_text(standing))
                    told = read_standing(beam, text)
                    self.assertIs(type(told), tuple)
                    self.assertEqual(told, standing)
                    self.assertEqual(handed, type(handed)(standing))

    def test_none(self):
        for beam in (Beam(1, 1, [], 0), Beam(4, 3, (), 400)):
            for standing in ((), []):
                self.assertEqual(write_standing(beam, standing), "none")
            self.assertEqual(read_standing(beam, "none"), ())
            for text in ("tray", "1", "-1", "tray tray", "9999"):
                self.refused(BadStanding, read_standing, beam, text)
            for text in ("", " ", "none ", " none", "none none", "none tray", "tray none", "None", "NONE", "non", "no",
                         "0", "none\n", "\nnone", "nones", "-none"):
                self.no_text(read_standing, beam, text)

    def test_none_with_weights(self):
        for weights in range(1, 6):
            self.refused(BadStanding, read_standing, Beam(1, 1, [7] * weights, 400), "none")
        for text in ("none tray", "tray none", "none none"):
            self.no_text(read_standing, Beam(1, 1, [7, 7], 400), text)

    def test_too_many_and_too_few_places(self):
        for weights in range(6):
            beam = Beam(1, 3, [7] * weights, 400)
            for many in (1, 2, 3, 4, 5, 6, 7, 80):
                text = " ".join(["tray"] * many)
                if many == weights:
                    self.assertEqual(read_standing(beam, text), (0,) * many)
                else:
                    self.refused(BadStanding, read_standing, beam, text)

    def test_what_point_4_refuses(self):
        beam = Beam(2, 1, [3, 5], 400)
        for text in ("1 1", "-2 -2", "3 tray", "tray -3", "9999 -9999", "tray 9999"):
            self.refused(BadStanding, read_standing, beam, text)
        for standing in ((), (0,), (0, 0, 0), (1, 1), (3, 0), (0, -3), (HUGE, 0), (0, -HUGE), (0,) * 400):
            self.refused(BadStanding, write_standing, beam, standing)
            self.refused(BadStanding, write_standing, beam, list(standing))
            self.refused(BadStanding, write_beam, beam, standing)
            self.refused(BadStanding, write_beam, beam, list(standing))

    def test_past_the_limit(self):
        beam = Beam(2, 1, [3, 5], 0)
        self.assertEqual(write_standing(beam, (1, 2)), "1 2")
        self.assertEqual(read_standing(beam, "1 2"), (1, 2))

    def test_blanks_and_line_feeds(self):
        beam = Beam(3, 2, [5, 3, 8], 20)
        for text in ("3 -2 1", "tray tray tray", "-1 tray 2"):
            for other in spoilt(text):
                # With a blank less two numbers may be one: that is a text of too few places.
                if other == "3 -21":
                    self.refused(BadStanding, read_standing, beam, other)
                else:
                    self.no_text(read_standing, beam, other)
        for text in ("", " ", "  ", "\n", " \n "):
            self.no_text(read_standing, beam, text)

    def test_bad_text_ahead_of_bad_standing(self):
        beam = Beam(2, 1, [3, 5], 400)
        for text in ("1 1 1 01", "3 x", "x 3", "0", "tray tray tray 0", "9999 10000", "1 1 ", " 1 1", "1  1", "none 3"):
            self.no_text(read_standing, beam, text)


class Moves(TextCase):
    def test_ordinary_moves(self):
        self.assertEqual(write_move((2, 0, -3)), "2 tray -3")
        self.assertEqual(write_move([1, 4, 0]), "1 4 tray")
        self.assertEqual(read_move("2 tray -3"), (2, 0, -3))
        self.assertEqual(read_move("1 4 tray"), (1, 4, 0))

    def test_arguments_by_name(self):
        self.assertEqual(write_move(move=[2, 0, -3]), "2 tray -3")
        self.assertEqual(read_move(text="2 tray -3"), (2, 0, -3))

    def test_written_and_read_back(self):
        places = (-9999, -1000, -10, -4, -1, 0, 1, 4, 10, 1000, 9999)
        for move in itertools.product((0, 1, 2, 5, 10, 999, 1000, 9999), places, places):
            for handed in (move, list(move)):
                text = write_move(handed)
                self.assertIs(type(text), str)
                self.assertEqual(text, move_text(move))
                self.assertEqual(handed, type(handed)(move))
            told = read_move(text)
            self.assertIs(type(told), tuple)
            self.assertEqual(told, move)
            self.assertEqual([type(number) for number in told], [int, int, int])

    def test_no_beam_is_asked(self):
        self.assertEqual(read_move("0 tray tray"), (0, 0, 0))
        self.assertEqual(read_move("9999 -9999 9999"), (9999, -9999, 9999))
        self.assertEqual(read_move("1 1 1"), (1, 1, 1))

    def test_somewhat_beyond_what_is_written_is_not_refused(self):
        write_move((10000, -10000, 10000))

    def test_other_texts(self):
        for text in ("", " ", "2", "2 tray", "2 tray -3 1", "2 tray -3 tray", "tray -3", "2 0 -3", "2 tray 0",
                     "tray tray tray", "-2 tray -3", "none", "2 none 1", "2,tray,-3", "(2, 0, -3)", "2 tray to -3",
                     "move 2 tray -3", "2 tray -3.", "2 Tray -3", "\n", "2\ntray\n-3", "2 tray -3\n2 tray -3"):
            self.no_text(read_move, text)

    def test_blanks_and_line_feeds(self):
        for text in ("2 tray -3", "1 1 1", "0 -1 tray"):
            for other in spoilt(text):
                self.no_text(read_move, other)


class Beams(TextCase):
    def test_an_ordinary_beam(self):
        text = "notches 3\nroom 2\nlimit 20\nweight 5 3\nweight 3 -2\nweight 8 tray"
        for standing in ((3, -2, 0), [3, -2, 0]):
            self.assertEqual(write_beam(Beam(3, 2, [5, 3, 8], 20), standing), text)
        beam, standing = read_beam(text)
        self.assertEqual((fields(beam), standing), ((3, 2, (5, 3, 8), 20), (3, -2, 0)))

    def test_no_weights(self):
        text = "notches 1\nroom 1\nlimit 0"
        self.assertEqual(write_beam(Beam(1, 1, [], 0), ()), text)
        beam, standing = read_beam(text)
        self.assertEqual((fields(beam), standing), ((1, 1, (), 0), ()))

    def test_arguments_by_name(self):
        text = write_beam(beam=Beam(1, 1, [7], 9), standing=[-1])
        self.assertEqual(text, "notches 1\nroom 1\nlimit 9\nweight 7 -1")
        self.assertEqual(read_beam(text=text)[1], (-1,))

    def test_written_and_read_back(self):
        weights = set()
        for beam in small_beams() + some_beams():
            weights.add(len(beam.hefts))
            every = standings(beam)
            for standing in every[::max(1, len(every) // 60)] + every[-1:]:
                for handed in (standing, list(standing)):
                    text = write_beam(beam, handed)
                    self.assertIs(type(text), str)
                    self.assertEqual(text, beam_text(beam, standing))
                    self.assertEqual(handed, type(handed)(standing))
                self.check_read(text, fields(beam), standing)
        self.assertEqual(weights, {0, 1, 2, 3, 4, 5})

    def check_read(self, text, numbers, standing):
        told = read_beam(text)
        self.assertIs(type(told), tuple)
        self.assertEqual(len(told), 2)
        self.assertIsInstance(told[0], Beam)
        self.assertEqual(fields(told[0]), numbers)
        self.assertIs(type(told[0].hefts), tuple)
        self.assertIs(type(told[1]), tuple)
        self.assertEqual(told[1], standing)

    def test_past_the_limit(self):
        beam = under(Beam(2, 1, [3, 5], 400), 0)
        self.check_read(write_beam(beam, (1, 2)), fields(beam), (1, 2))

    def test_rows_left_out_doubled_and_added(self):
        rows = ["notches 3", "room 2", "limit 20", "weight 5 3", "weight 3 -2"]
        for seat in range(3):
            self.no_rows(rows[:seat] + rows[seat + 1:])
            self.no_rows(rows[:seat] + [rows[seat]] + rows[seat:])
            self.no_rows(rows + [rows[seat]])
            self.no_rows(rows[:3][:seat])
        for other in ("", " ", "weight", "none", "beam 1", "limit 20", "tray", "5 3", "weight 5 3 "):
            for seat in range(6):
                self.no_rows(rows[:seat] + [other] + rows[seat:])
        self.no_rows([])
        self.no_rows(rows[3:])

    def no_rows(self, rows):
        self.no_text(read_beam, "\n".join(rows))

    def test_weights_left_out_and_doubled_are_other_beams(self):
        front = "notches 3\nroom 2\nlimit 20"
        self.check_read(front + "\nweight 5 3", (3, 2, (5,), 20), (3,))
        self.check_read(front + "\nweight 5 3\nweight 5 3", (3, 2, (5, 5), 20), (3, 3))

    def test_another_order(self):
        rows = ["notches 2", "room 2", "limit 2", "weight 5 1"]
        for order in itertools.permutations(rows):
            if list(order) != rows:
                self.no_rows(order)
        self.check_read("notches 3\nroom 2\nlimit 20\nweight 3 -2\nweight 5 3", (3, 2, (3, 5), 20), (-2, 3))

    def test_words_left_out_added_and_changed(self):
        rows = ["notches 3", "room 2", "limit 20", "weight 5 3", "weight 3 -2"]
        for seat, row in enumerate(rows):
            words = row.split(" ")
            others = [words + ["1"], words + ["tray"], ["1"] + words, words[:-1], words[1:], words[:1] + words]
            others += [[front] + words[1:] for front in
                       (words[0].upper(), words[0].title(), words[0] + "s", words[0][:-1], words[0] + ":", "", "x")]
            others += [[front] + words[1:] for front in ("notches", "room", "limit", "weight") if front != words[0]]
            others += [words[:1] + words[:0:-1]] if row == "weight 3 -2" else []
            for other in others:
                self.no_rows(rows[:seat] + [" ".join(other)] + rows[seat + 1:])
            for other in spoilt(row):
                self.no_rows(rows[:seat] + [other] + rows[seat + 1:])

    def test_an_empty_row_and_a_line_feed_at_an_end(self):
        for text in ("notches 3\nroom 2\nlimit 20", "notches 3\nroom 2\nlimit 20\nweight 5 3"):
            read_beam(text)
            for other in (text + "\n", "\n" + text, text + "\n\n", text.replace("\n", "\n\n"), text + " ", " " + text,
                          text.replace("\n", " "), text.replace("\n", ""), text.replace("\n", " \n"),
                          text.replace("\n", "\n ")):
                self.no_text(read_beam, other)
        for text in ("", "\n", "\n\n", "\n\n\n", " "):
            self.no_text(read_beam, text)

    def test_numbers_of_five_figures(self):
        rows = ["notches 3", "room 2", "limit 20", "weight 5 3"]
        for seat, other in enumerate(("notches 10000", "room 10000", "limit 10000", "weight 10000 3")):
            self.no_rows(rows[:seat] + [other] + rows[seat + 1:])
        self.no_rows(rows[:3] + ["weight 5 10000"])
        self.no_rows(rows[:3] + ["weight 5 -10000"])

    def test_bad_beams(self):
        weights = "\nweight 5 1\nweight 3 tray"
        for front in ("notches 0\nroom 1\nlimit 9", "notches 5\nroom 1\nlimit 9", "notches 9999\nroom 1\nlimit 9",
                      "notches 2\nroom 0\nlimit 9", "notches 2\nroom 4\nlimit 9", "notches 2\nroom 1\nlimit 401",
                      "notches 2\nroom 1\nlimit 9999"):
            self.refused(BadBeam, read_beam, front)
            self.refused(BadBeam, read_beam, front + weights)
        for heft in (0, 21, 9999):
            self.refused(BadBeam, read_beam, f"notches 2\nroom 1\nlimit 9\nweight {heft} 1")
            self.refused(BadBeam, read_beam, f"notches 2\nroom 1\nlimit 9{weights}\nweight {heft} tray")
        for notches, most in ((1, 5), (2, 4), (3, 3), (4, 3)):
            front = f"notches {notches}\nroom 1\nlimit 9"
            self.check_read(front + "\nweight 5 tray" * most, (notches, 1, (5,) * most, 9), (0,) * most)
            for many in (most + 1, most + 2, 20):
                self.refused(BadBeam, read_beam, front + "\nweight 5 tray" * many)

    def test_bad_standings(self):
        for notches, room, places in ((2, 1, "1 1"), (2, 2, "1 1 1"), (2, 1, "3"), (2, 1, "tray -3"), (4, 1, "5"),
                                      (1, 3, "1 1 1 1"), (4, 3, "9999"), (4, 3, "-9999 1")):
            weights = "".join(f"\nweight 5 {place}" for place in places.split(" "))
            self.refused(BadStanding, read_beam, f"notches {notches}\nroom {room}\nlimit 400{weights}")

    def test_bad_text_then_bad_beam_then_bad_standing(self):
        # Of each front the first is a beam's, of each weight's row the first is one of that beam and standing.
        fronts = (("notches 2\nroom 1\nlimit 9", None), ("notches 5\nroom 1\nlimit 9", BadBeam),
                  ("notches 2\nroom 4\nlimit 9", BadBeam), ("notches 2\nroom 1\nlimit 401", BadBeam),
                  ("notches 2\nroom 01\nlimit 9", BadText), ("notches 5\nroom 1\nlimit", BadText))
        rows = (("weight 5 1", None), ("weight 21 1", BadBeam), ("weight 0 7", BadBeam), ("weight 5 7", BadStanding),
                ("weight 5 2", BadStanding), ("weight 5 0", BadText), ("weight +5 7", BadText),
                ("weight 0 7 1", BadText), ("", BadText))
        for front, row, other in itertools.product(fronts, rows, rows):
            text = "\n".join([front[0], row[0], other[0], "weight 3 2"])
            errors = [front[1], row[1], other[1]]
            if row[0] == other[0] and row[1] is None:
                errors.append(BadStanding)
            found = [error for error in (BadText, BadBeam, BadStanding) if error in errors]
            with self.subTest(text=text):
                if found:
                    self.refused(found[0], read_beam, text)
                else:
                    read_beam(text)


if __name__ == "__main__":
    unittest.main()
