"""Points 30 to 33: the desk's beam text, its rows and its answers, and refusals as answers."""

import re
import unittest

from beamtender.beam import Beam, under
from beamtender.desk import answers
from beamtender.errors import BadBeam, BadStanding, BadText, StartPast
from helping import (
    NO_NUMBERS, NO_PLACES, NUMBERS, PLACES, BeamCase, beam_text, counted_tilt, faults, keeping, layers_from, let_by,
    move_text, neighbours, put_at, row_in, row_text, some_beams, standing_text, standings, tilt_text, walked,
)

TEXT = "notches 3\nroom 2\nlimit 20\nweight 5 3\nweight 3 -2\nweight 8 1"
NARROW = "notches 1\nroom 1\nlimit 1\nweight 1 -1\nweight 2 1\nweight 3 tray"
EMPTY = "notches 2\nroom 1\nlimit 0"
# The word of a refusal, a beam's text, and a row that is refused so at the text's standing.
REFUSED = (
    ("no weight", TEXT, "move 4 tray 1"), ("no weight", TEXT, "move 0 tray 1"), ("no weight", TEXT, "move 1 tray 2"),
    ("no weight", TEXT, "move 9999 9999 -9999"), ("no weight", EMPTY, "move 1 tray 1"),
    ("no place", TEXT, "move 1 3 4"), ("no place", TEXT, "move 1 3 -9999"),
    ("same place", TEXT, "move 1 3 3"), ("same place", NARROW, "move 3 tray tray"),
    ("no room", NARROW, "move 3 tray 1"), ("no room", NARROW, "move 1 -1 1"), ("no room", NARROW, "move 3 tray -1"),
    ("tips in hand", TEXT, "move 2 -2 tray"), ("tips in hand", TEXT, "move 2 -2 -3"),
    ("tips behind", TEXT, "move 3 1 2"), ("tips behind", TEXT, "move 3 1 3"),
    ("nothing back", TEXT, "back"), ("nothing back", EMPTY, "back"),
    ("goal past", TEXT, "fewest 3 3 2"), ("goal past", TEXT, "next -3 -3 tray"),
    ("no way", NARROW, "next tray -1 1"),
    ("bad standing", TEXT, "fewest none"), ("bad standing", TEXT, "next 3 -2"), ("bad standing", TEXT, "least 4 1 1"),
    ("bad standing", TEXT, "least 1 1 1"), ("bad standing", TEXT, "fewest 3 -2 1 tray"),
    ("bad standing", EMPTY, "fewest tray"), ("bad standing", EMPTY, "next 1"), ("bad standing", EMPTY, "least tray"),
    ("bad text", TEXT, "fewest 3 -2 0"), ("bad text", TEXT, "move 1 3 0"), ("bad text", TEXT, "stop"),
)
WORDS = set(
    "bad text,bad standing,no weight,no place,same place,no room,tips in hand,tips behind,goal past,no way,nothing back"
    .split(",")
)


def small_beams():
    told = [
        (1, 1, (), 0), (3, 1, [4], 8), (1, 1, (1, 1), 0), (1, 1, (1, 1), 1), (2, 1, [3, 5], 5), (2, 1, (3, 5), 6),
        (1, 1, [1, 2, 3], 1), (1, 2, (2, 2, 3), 3), (1, 1, [5, 5], 4),
    ]
    return [Beam(notches, room, hefts, limit) for notches, room, hefts, limit in told]


class DeskCase(BeamCase):
    def told(self, text, rows):
        handed = list(rows)
        found = answers(text, handed)
        self.assertEqual(handed, list(rows))
        self.assertIs(type(found), list)
        self.assertEqual(len(found), len(rows))
        for answer in found:
            self.assertIs(type(answer), str)
        return found

    def answered(self, text, asked):
        """Asks all rows at one desk and holds each against the answer that stands behind it."""
        self.assertEqual(list(zip([row for row, answer in asked], self.told(text, [row for row, answer in asked]))),
                         list(asked))


class Begins(DeskCase):
    def test_no_rows(self):
        for text in (TEXT, NARROW, EMPTY):
            found = answers(text, [])
            self.assertIs(type(found), list)
            self.assertEqual(found, [])

    def test_arguments_by_name(self):
        self.assertEqual(answers(text=TEXT, rows=["show"]), ["3 -2 1"])

    def test_with_the_standing_of_the_text(self):
        for beam in some_beams():
            kept = keeping(beam)
            for standing in kept[::max(1, len(kept) // 40)]:
                self.answered(beam_text(beam, standing), [
                    ("show", standing_text(standing)), ("look", tilt_text(beam, standing)),
                    ("moves", row_text(let_by(beam, standing))), ("back", "refused: nothing back"),
                ])

    def test_start_past(self):
        for beam in small_beams():
            kept = keeping(beam)
            for standing in standings(beam):
                if standing in kept:
                    self.answered(beam_text(beam, standing), [("show", standing_text(standing))])
                else:
                    self.refused(StartPast, answers, beam_text(beam, standing), ["show"])

    def no_desk(self, error, text):
        for rows in ([], ["show"], ["nonsense", "back"]):
            with self.subTest(text=text, rows=rows):
                self.refused(error, answers, text, rows)

    def test_each_refusal_of_a_beams_text(self):
        for text in ("", "\n", TEXT + "\n", " " + TEXT, TEXT + " ", TEXT.replace("\n", "\n\n"),
                     TEXT.replace("room 2\n", ""), TEXT.replace("limit 20", "limit 020"), TEXT.replace("5 3", "5 0")):
            self.no_desk(BadText, text)
        for text in (TEXT.replace("notches 3", "notches 5"), TEXT.replace("room 2", "room 4"),
                     TEXT.replace("limit 20", "limit 401"), TEXT.replace("weight 5", "weight 21"),
                     TEXT + "\nweight 1 tray", EMPTY.replace("notches 2", "notches 0")):
            self.no_desk(BadBeam, text)
        for text in (TEXT.replace("5 3", "5 4"), NARROW.replace("-1", "1"), NARROW.replace("tray", "9999")):
            self.no_desk(BadStanding, text)
        for text in (TEXT.replace("limit 20", "limit 16"), TEXT.replace("-2", "2"),
                     NARROW.replace("limit 1", "limit 0")):
            self.no_desk(StartPast, text)

    def test_bad_text_then_bad_beam_then_bad_standing_then_start_past(self):
        past = TEXT.replace("limit 20", "limit 2")
        self.no_desk(StartPast, past)
        no_standing = past.replace("8 1", "8 4")
        self.no_desk(BadStanding, no_standing)
        no_beam = no_standing.replace("room 2", "room 0")
        self.no_desk(BadBeam, no_beam)
        self.no_desk(BadText, no_beam + "\n")
        self.no_desk(BadText, no_beam.replace("weight 8", "weight  8"))


class Answers(DeskCase):
    def test_each_form_of_row(self):
        self.answered(TEXT, [
            ("look", "tilt 17 right"),
            ("show", "3 -2 1"),
            ("moves", "10 moves: 1 3 -3, 1 3 -2, 1 3 -1, 1 3 tray, 1 3 1, 1 3 2, 3 1 -3, 3 1 -2, 3 1 -1, 3 1 tray"),
            ("move 3 1 -1", "tilt 1 right"),
            ("show", "3 -2 -1"),
            ("move 1 3 tray", "tilt -14 left"),
            ("look", "tilt -14 left"),
            ("show", "tray -2 -1"),
            ("back", "1 3 tray"),
            ("look", "tilt 1 right"),
            ("fewest 3 -2 1", "1 moves: 3 -1 1"),
            ("fewest 3 -2 -1", "0 moves"),
            ("next 3 -2 1", "3 -1 1"),
            ("next 3 -2 -1", "there"),
            ("least 3 -2 -1", "limit 1: 0 moves"),
            ("least 3 -2 1", "limit 17: 1 moves: 3 -1 1"),
            ("back", "3 1 -1"),
            ("back", "refused: nothing back"),
            ("show", "3 -2 1"),
        ])

    def test_the_narrow_beam(self):
        self.answered(NARROW, [
            ("moves", "1 moves: 2 1 tray"),
            ("fewest 1 -1 tray", "3 moves: 2 1 tray, 1 -1 1, 2 tray -1"),
            ("next 1 -1 tray", "2 1 tray"),
            ("fewest tray -1 1", "no way: 5 standings"),
            ("next tray -1 1", "refused: no way"),
            ("move 2 1 tray", "tilt -1 left"),
            ("moves", "3 moves: 1 -1 tray, 1 -1 1, 2 tray 1"),
            ("fewest 1 -1 tray", "2 moves: 1 -1 1, 2 tray -1"),
            ("move 1 -1 tray", "tilt 0 level"),
            ("look", "tilt 0 level"),
            ("show", "tray tray tray"),
            ("moves", "2 moves: 1 tray -1, 1 tray 1"),
        ])

    def test_no_weights(self):
        self.answered(EMPTY, [
            ("look", "tilt 0 level"), ("show", "none"), ("moves", "0 moves"), ("back", "refused: nothing back"),
            ("fewest none", "0 moves"), ("next none", "there"), ("least none", "limit 0: 0 moves"),
            ("move 1 tray 1", "refused: no weight"), ("show", "none"),
        ])

    def test_no_move_let_by(self):
        self.answered("notches 1\nroom 1\nlimit 4\nweight 5 1\nweight 5 -1", [
            ("look", "tilt 0 level"), ("moves", "0 moves"), ("fewest tray tray", "no way: 1 standings"),
            ("fewest 1 -1", "0 moves"), ("least 1 -1", "limit 0: 0 moves"),
        ])

    def test_the_widest_tilts(self):
        text = "notches 4\nroom 3\nlimit 400\nweight 20 4\nweight 20 4\nweight 20 "
        self.answered(text + "tray", [("move 3 tray 4", "tilt 240 right"), ("show", "4 4 4")])
        self.answered((text + "tray").replace(" 4\nweight", " -4\nweight"), [
            ("look", "tilt -160 left"), ("move 3 tray -4", "tilt -240 left"), ("show", "-4 -4 -4"),
        ])

    def tried(self, beam, start, move):
        """The rows that try a move at the start and lead back to it, with their answers."""
        words = faults(beam, start, move)
        if words:
            asked = [("move " + move_text(move), "refused: " + words[0])]
        else:
            behind = put_at(start, move[0], move[2])
            asked = [("move " + move_text(move), tilt_text(beam, behind)), ("show", standing_text(behind)),
                     ("back", move_text(move))]
        return asked + [("show", standing_text(start))]

    def test_every_move_that_is_tried(self):
        for beam in small_beams():
            places = range(-beam.notches - 1, beam.notches + 2)
            moves = [(weight, taken, put) for weight in range(5) for taken in places for put in places]
            for start in keeping(beam)[::3]:
                # At most four rows a move, and at most 400 rows a desk.
                for seat in range(0, len(moves), 100):
                    asked = [self.tried(beam, start, move) for move in moves[seat:seat + 100]]
                    self.answered(beam_text(beam, start), sum(asked, []))

    def test_a_long_play(self):
        for beam in some_beams():
            start = keeping(beam)[len(keeping(beam)) // 3]
            asked, ahead, trail, standing = [], [], [], start
            for turn in range(40):
                choice = let_by(beam, standing)
                if choice:
                    move = choice[turn * 7 % len(choice)]
                    ahead.append(standing)
                    trail.append(move)
                    standing = put_at(standing, move[0], move[2])
                    asked += [("move " + move_text(move), tilt_text(beam, standing))]
                asked += [("show", standing_text(standing)), ("moves", row_text(let_by(beam, standing)))]
            while trail:
                standing = ahead.pop()
                asked += [("back", move_text(trail.pop())), ("look", tilt_text(beam, standing)),
                          ("show", standing_text(standing))]
            self.answered(beam_text(beam, start), asked + [("back", "refused: nothing back")])


class Goals(DeskCase):
    """Every goal is asked for at some standings, and the answers are held against a search of the test's own."""

    def steps(self, near, start, goal):
        for many, layer in enumerate(layers_from(near, start)):
            if goal in layer:
                return many
        return None

    def check_fewest(self, beam, near, start, goal, answer):
        many = self.steps(near, start, goal)
        if abs(counted_tilt(beam, goal)) > beam.limit:
            self.assertEqual(answer, "refused: goal past")
        elif many is None:
            self.assertEqual(answer, f"no way: {sum(map(len, layers_from(near, start)))} standings")
        else:
            row = row_in(answer)
            self.assertIsNotNone(row, answer)
            self.assertEqual((len(row), walked(beam, start, row)), (many, goal))

    def check_next(self, beam, near, start, goal, answer):
        many = self.steps(near, start, goal)
        if abs(counted_tilt(beam, goal)) > beam.limit:
            self.assertEqual(answer, "refused: goal past")
        elif many is None:
            self.assertEqual(answer, "refused: no way")
        elif many == 0:
            self.assertEqual(answer, "there")
        else:
            row = row_in("1 moves: " + answer)
            self.assertIsNotNone(row, answer)
            self.assertEqual(self.steps(near, walked(beam, start, row), goal), many - 1)

    def check_least(self, beam, nears, start, goal, answer):
        limit = max(abs(counted_tilt(beam, start)), abs(counted_tilt(beam, goal)))
        while self.steps(nears[limit], start, goal) is None:
            limit += 1
        found = re.fullmatch(r"limit (\d+): (.*)", answer)
        self.assertIsNotNone(found, answer)
        self.assertEqual(found.group(1), f"{limit}")
        row = row_in(found.group(2))
        self.assertIsNotNone(row, answer)
        self.assertEqual(len(row), self.steps(nears[limit], start, goal))
        self.assertEqual(walked(under(beam, limit), start, row), goal)

    def check_goals(self, beam, start, at_hand, rows):
        highest = max(abs(counted_tilt(beam, standing)) for standing in standings(beam))
        nears = [neighbours(under(beam, limit)) for limit in range(highest + 1)]
        near = neighbours(beam)
        goals = standings(beam)
        asked = list(rows)
        for goal in goals:
            asked += [word + " " + standing_text(goal) for word in ("fewest", "next", "least")] + ["show"]
        found = self.told(beam_text(beam, start), asked)[len(rows):]
        for seat, goal in enumerate(goals):
            with self.subTest(hefts=beam.hefts, limit=beam.limit, at_hand=at_hand, goal=goal):
                told = found[4 * seat:4 * seat + 4]
                self.check_fewest(beam, near, at_hand, goal, told[0])
                self.check_next(beam, near, at_hand, goal, told[1])
                self.check_least(beam, nears, at_hand, goal, told[2])
                self.assertEqual(told[3], standing_text(at_hand))
        return found

    def test_every_goal_from_the_start(self):
        found = []
        for beam in small_beams():
            for start in keeping(beam)[::4]:
                found += self.check_goals(beam, start, start, [])
        # The beams are of use only where they show each of these.
        for front in ("0 moves", "1 moves: ", "3 moves: ", "no way: 1 ", "no way: 5 ", "there", "refused: goal past",
                      "refused: no way", "limit 0: 0 moves", "limit 5: 1 moves: "):
            self.assertTrue(any(answer.startswith(front) for answer in found), front)

    def test_every_goal_from_another_standing_at_hand(self):
        for beam in small_beams():
            for start in keeping(beam)[1::4]:
                choice = let_by(beam, start)
                if choice:
                    move = choice[-1]
                    self.check_goals(beam, start, put_at(start, move[0], move[2]), ["move " + move_text(move)])

    def test_goals_past_the_limit(self):
        self.answered(TEXT, [
            ("fewest 3 -1 2", "refused: goal past"), ("next -3 -3 tray", "refused: goal past"), ("show", "3 -2 1"),
        ])
        self.assertTrue(answers(TEXT, ["least 3 3 2"])[0].startswith("limit 40: "))


class Refusals(DeskCase):
    def test_each_word(self):
        self.assertEqual({word for word, text, row in REFUSED}, WORDS)
        for word, text, row in REFUSED:
            with self.subTest(text=text, row=row):
                ahead, found, behind, back = self.told(text, ["show", row, "show", "back"])
                self.assertEqual(found, "refused: " + word)
                self.assertEqual(behind, ahead)
                self.assertEqual(back, "refused: nothing back")

    def test_each_word_with_a_move_in_the_trail(self):
        there = {TEXT: ("move 1 3 tray", "move 1 tray 3"), NARROW: ("move 2 1 tray", "move 2 tray 1")}
        for word, text, row in REFUSED:
            if text in there and row != "back":
                with self.subTest(text=text, row=row):
                    rows = list(there[text]) + ["show", row, "show", "back", "back", "back"]
                    found = self.told(text, rows)[2:]
                    self.assertEqual(found[1], "refused: " + word)
                    self.assertEqual(found[2], found[0])
                    expected = [made[len("move "):] for made in reversed(there[text])]
                    self.assertEqual(found[3:], expected + ["refused: nothing back"])

    def test_play_full(self):
        there, again = ("move 1 3 tray", "tilt 2 right"), ("move 1 tray 3", "tilt 17 right")
        full = "refused: play full"
        self.answered(TEXT, [there, again] * 150 + [
            ("move 1 3 tray", full), ("show", "3 -2 1"), ("move 4 tray 1", full), ("move 1 3 4", full),
            ("move 1 3 3", full), ("move 2 -2 tray", full), ("move 3 1 3", full), ("move 1 tray 3", full),
            ("look", "tilt 17 right"), ("show", "3 -2 1"), ("next tray -2 1", "1 3 tray"),
            ("fewest tray -2 1", "1 moves: 1 3 tray"), ("least tray -2 1", "limit 17: 1 moves: 1 3 tray"),
            ("back", "1 tray 3"), ("show", "tray -2 1"), ("move 4 tray 1", "refused: no weight"), again,
            ("move 1 3 tray", full), ("back", "1 tray 3"), ("back", "1 3 tray"), there, again,
            ("move 1 3 tray", full), ("show", "3 -2 1"),
        ])

    def test_a_move_that_is_no_text_at_a_full_play(self):
        rows = ["move 1 3 tray", "move 1 tray 3"] * 150 + ["move 1 3 0", "move", "move 1 3 tray"]
        self.assertEqual(self.told(TEXT, rows)[300:], ["refused: bad text"] * 2 + ["refused: play full"])

    def test_rows_behind_a_refusal_are_still_answered(self):
        self.answered(TEXT, [
            ("nonsense", "refused: bad text"), ("move 1 3 tray", "tilt 2 right"), ("", "refused: bad text"),
            ("move 1 3 tray", "refused: no weight"), ("back", "1 3 tray"), ("show", "3 -2 1"),
        ])


class Forms(DeskCase):
    def no_rows(self, text, rows):
        for row in rows:
            with self.subTest(row=row):
                ahead, found, behind, back = self.told(text, ["show", row, "show", "back"])
                self.assertEqual(found, "refused: bad text")
                self.assertEqual((behind, back), (ahead, "refused: nothing back"))

    def test_the_empty_row(self):
        self.no_rows(TEXT, ["", " ", "  ", "\n"])
        self.no_rows(EMPTY, ["", " ", "  ", "\n"])

    def test_forms_of_one_word(self):
        for word in ("look", "show", "moves", "back"):
            self.no_rows(TEXT, [
                word + " ", " " + word, word + "  ", word + "\n", "\n" + word, word[:2] + " " + word[2:],
                word + " " + word, word + " 1", word + " tray", word + " none", word + " 3 -2 1", word + " 1 3 tray",
                word.upper(), word.title(), word[:-1], word[1:], word + "s", word + ".", word + ";", "x" + word,
                word + "\n" + word, word + ", " + word,
            ])

    def test_moves(self):
        self.no_rows(TEXT, [
            "move", "move ", "move  ", "move 1", "move 1 3", "move 3 tray", "move 1 tray", "1 3 tray",
            "move 1 3 tray 1", "move 1 3 tray tray", "move move 1 3 tray", " move 1 3 tray", "move 1 3 tray ",
            "move  1 3 tray", "move 1  3 tray", "move 1 3  tray", "move1 3 tray", "move 13 tray",
            "move 1 3tray", "move 1 3 tray\n", "\nmove 1 3 tray",
            "move\n1 3 tray", "move 1\n3 tray", "move 1 3\ntray",
            "Move 1 3 tray", "MOVE 1 3 TRAY", "move 1 3 Tray", "moved 1 3 tray", "mov 1 3 tray", "moves 1 3 tray",
            "move 1 3 0", "move 01 3 tray", "move +1 3 tray", "move -1 3 tray", "move 1 +3 tray", "move 1 03 tray",
            "move 1 3 -0", "move 1 3 -tray", "move 1 3 --1", "move 1 3 - 1", "move 1 3 10000", "move 10000 3 tray",
            "move tray 3 tray", "move 1 3 none", "move none", "move (1, 3, 0)", "move 1, 3, tray", "back 1 3 tray",
        ])

    def test_goals(self):
        for word in ("fewest", "next", "least"):
            self.no_rows(TEXT, [
                word, word + " ", word + "  ", " " + word, word + "\n", "3 -2 1",
                f" {word} 3 -2 1", f"{word} 3 -2 1 ", f"{word}  3 -2 1", f"{word} 3  -2 1", f"{word} 3 -2  1",
                f"{word}3 -2 1", f"{word} 3-2 1", f"{word} 3 -2 1\n", f"\n{word} 3 -2 1", f"{word}\n3 -2 1",
                f"{word} 3\n-2 1", f"{word.upper()} 3 -2 1", f"{word.title()} 3 -2 1",
                f"{word[:-1]} 3 -2 1", f"{word}s 3 -2 1", f"{word}: 3 -2 1", f"{word} {word} 3 -2 1",
                f"{word} 3 -2 1 x", f"{word} to 3 -2 1", f"{word} 3, -2, 1", f"{word} 3 -2 Tray", f"{word} 3 -2 0",
                f"{word} 3 -2 01", f"{word} +3 -2 1", f"{word} 3 -2 -0", f"{word} 3 --2 1", f"{word} 3 - 2 1",
                f"{word} 3 -2 -tray", f"{word} 3 -2 10000", f"{word} none none", f"{word} none 1", f"{word} 3 -2 none",
                f"{word} None", f"{word} none ", f"{word}  none", f"{word}none", f"{word} 4 4 4 4 0",
            ])
            self.no_rows(EMPTY, [
                word, word + " ", word + " None", word + " none ", f"{word}  none", f"{word} none none", f"{word}none",
                f"{word} 0", f"{word} x", f"{word} none\n",
            ])

    def test_goals_with_a_place_more_or_less_are_bad_standings(self):
        for word in ("fewest", "next", "least"):
            for goal in ("3 -2 1 tray", "3 -2", "3", "none", "tray", "3 -21", "9999 -9999 1", "3 3 3", "4 tray tray"):
                self.assertEqual(self.told(TEXT, [f"{word} {goal}"]), ["refused: bad standing"])

    def test_plain_numbers_and_places(self):
        text = "notches 4\nroom 1\nlimit 400\nweight 5 tray"
        for word, number in NUMBERS.items():
            self.assertEqual(self.told(text, [f"move {word} tray 1"]),
                             ["tilt 5 right" if number == 1 else "refused: no weight"])
        for word, place in PLACES.items():
            self.assertEqual(self.told(text, [f"move 1 {word} 1"])[0] == "tilt 5 right", place == 0)
            told = self.told(text, ["fewest " + word, "next " + word, "least " + word, "move 1 tray " + word, "show"])
            if abs(place) > 4:
                self.assertEqual(told, ["refused: bad standing"] * 3 + ["refused: no place", "tray"])
            elif place:
                row = f"1 moves: 1 tray {word}"
                self.assertEqual(told[:3], [row, f"1 tray {word}", f"limit {5 * abs(place)}: {row}"])
                self.assertEqual(told[4], word)
        self.no_rows(text, [f"move {word} tray 1" for word in NO_NUMBERS])
        for word in NO_PLACES:
            self.no_rows(text, [f"move 1 {word} 1", f"move 1 tray {word}"])
            if word != "none":
                self.no_rows(text, [f"fewest {word}", f"next {word}", f"least {word}"])

    def test_plain_numbers_and_places_in_the_beams_text(self):
        for word in NO_NUMBERS:
            self.refused(BadText, answers, EMPTY.replace("2", word), ["show"])
            self.refused(BadText, answers, f"{EMPTY}\nweight {word} tray", ["show"])
        for word in NO_PLACES:
            self.refused(BadText, answers, f"{EMPTY}\nweight 5 {word}", ["show"])

    def test_other_rows(self):
        self.no_rows(TEXT, [
            "help", "quit", "tilt", "side", "loads", "trail", "start", "undo", "least limit", "fewest moves", "0", "1",
            "tray", "none", "notches 3", "weight 5 3", TEXT, "look" * 90, "x" * 400, "refused: bad text", "there",
            "look show", "move back", "~", "!",
        ])


class Apart(DeskCase):
    def test_two_desks_of_one_text(self):
        asked = [("show", "3 -2 1"), ("move 1 3 tray", "tilt 2 right"), ("show", "tray -2 1")]
        for turn in range(3):
            self.answered(TEXT, asked)
        self.answered(TEXT, [("back", "refused: nothing back")])

    def test_desks_of_other_texts_between(self):
        for turn in range(2):
            self.answered(TEXT, [("show", "3 -2 1"), ("move 1 3 tray", "tilt 2 right")])
            self.answered(NARROW, [("show", "-1 1 tray"), ("move 2 1 tray", "tilt -1 left")])
            self.answered(EMPTY, [("show", "none"), ("back", "refused: nothing back")])

    def test_a_full_play_does_not_fill_another_desk(self):
        rows = ["move 1 3 tray", "move 1 tray 3"] * 150
        for turn in range(2):
            found = self.told(TEXT, rows + ["move 1 3 tray"])
            self.assertEqual(found, ["tilt 2 right", "tilt 17 right"] * 150 + ["refused: play full"])

    def test_told_answers_are_the_callers_own(self):
        first, second = answers(TEXT, ["look", "show"]), answers(TEXT, ["look", "show"])
        self.assertIsNot(first, second)
        first.append("spoilt")
        first[0] = "spoilt"
        self.assertEqual(second, ["tilt 17 right", "3 -2 1"])
        first.clear()
        self.assertEqual(answers(TEXT, ["look", "show"]), ["tilt 17 right", "3 -2 1"])
        nothing = answers(TEXT, [])
        nothing.append("spoilt")
        self.assertEqual(answers(TEXT, []), [])

    def test_rows_stay_and_may_be_changed_afterwards(self):
        rows = ["look", "nonsense", "move 1 3 tray", "back", "back", "", "least 3 -2 1"]
        ahead = list(rows)
        told = answers(TEXT, rows)
        self.assertEqual(rows, ahead)
        self.assertIsNot(told, rows)
        kept = list(told)
        rows[0] = "show"
        rows.clear()
        self.assertEqual(told, kept)


if __name__ == "__main__":
    unittest.main()
