"""[40] the rows that the desk refuses, with which class and field, in which order, and that nothing is kept of them."""

import math
import re
import unittest
from fractions import Fraction

from chancehall.desk import Desk
from chancehall.errors import HallError, NoChance, NoDoor, NoName, NoNumber, NoPlan, NoRoom, NoRow, NoShare
from chancehall.halls import Hall
from chancehall.texts import show

FIELDS = {NoRow: "row", NoRoom: "room", NoDoor: "door", NoPlan: "room"}
# Three rooms: x has two doors, y one, z none; y is a goal.
THREE = ["share 1/2", "room x", "room y", "room z", "door x stay 0 sure x", "door x on 0 sure y",
         "door y stay 1 sure y", "goal y"]
NO_WORDS = ["", "A", "X", "a1", "a-b", "-", "toolongaa", "a\n", "\ta", "1", "1/2", ";", "a;", "'a'"]
NO_NUMBERS = ["", "-", "+5", "05", "-0", "00", "2/4", "3/1", "0/2", "1/0", "1/-2", "--1", "1/2/3", "0.5", "1e3", "1_0",
              "x", "1\n", "\t1", "/2", "1/", "1" * 41, "-" + "1" * 41, "1/" + "3" * 41]


# A thing with a mind of its own about being asked, to be refused all the same.
class Stubborn:
    def __eq__(self, other):
        raise RuntimeError("not to be compared")

    def __bool__(self):
        raise RuntimeError("not to be asked for its truth")

    def __len__(self):
        raise RuntimeError("not to be measured")

    def split(self, sign):
        return ["best"]


# A thing that says of itself that it is whatever it is held against.
class Flatterer:
    def __eq__(self, other):
        return True

    def __hash__(self):
        return 0


NO_TEXTS = [None, True, False, 0, 1, -1, 10 ** 60, 0.5, 1j, b"", b"best", b"room x", [], ["best"], ["room", "x"], (),
            ("best",), {}, {"best": 1}, {"best"}, Fraction(1, 2), object(), Stubborn(), Flatterer(), str, Desk, Desk(),
            Hall((0, 1), []), range(3)]


class Refusals(unittest.TestCase):
    def told(self, rows):
        """A desk that is told the rows, each of which it answers with ok."""
        desk = Desk()
        for row in rows:
            self.assertEqual(desk.say(row), "ok", row)
        return desk

    def kept(self, desk):
        """All that can be seen of what a desk keeps: the hall, and which rooms are goals."""
        hall = desk.hall_now()
        marks = [desk.say(f"most {name}") for name in hall.names()]
        return (show(hall), desk.say("show"), desk.say("lots"), marks, desk.say("best"))

    def refused(self, desk, row, kind, field=None):
        """The row is refused with that class and field, and nothing is changed by it."""
        before = self.kept(desk)
        with self.assertRaises(HallError, msg=repr(row)) as taken:
            desk.say(row)
        self.assertIs(type(taken.exception), kind, repr(row))
        if kind in FIELDS:
            found = getattr(taken.exception, FIELDS[kind])
            self.assertEqual((type(found), found), (type(field), field), repr(row))
        self.assertEqual(self.kept(desk), before, repr(row))

    def each(self, rows, cases):
        """Cases (row, class) or (row, class, field), all of one desk that is told the rows."""
        desk = self.told(rows)
        for case in cases:
            self.refused(desk, *case)


class NoRows(Refusals):
    def test_what_is_no_text(self):
        for rows in [[], THREE]:
            desk = self.told(rows)
            for thing in NO_TEXTS:
                before = self.kept(desk)
                with self.assertRaises(HallError) as taken:
                    desk.say(thing)
                self.assertIs(type(taken.exception), NoRow)
                self.assertIsNone(taken.exception.row)
                self.assertEqual(self.kept(desk), before)

    def test_what_is_no_text_is_left_as_it_is(self):
        thing = ["room", ["q"]]
        with self.assertRaises(NoRow):
            Desk().say(thing)
        self.assertEqual(thing, ["room", ["q"]])

    def test_first_words_that_are_none(self):
        words = ["", "x", "Best", "BEST", "bests", "bes", "rooms", "Room", "doors", "list", "goals", "bound", "runs",
                 "ok", "-", "0", "1/2", "sure", "toss", "worths", "shown", "shut\t", "best\n", "\nbest", "best;",
                 "share\t1/2"]
        for word in words:
            for behind in ["", " ", " x", " x y", " 1/2", " x a 1 sure x", " 3 x"]:
                for rows in [[], THREE]:
                    self.refused(self.told(rows), word + behind, NoRow)

    def test_blanks_at_an_end(self):
        for row in ["best", "lots", "show", "share 1/3", "room q", "shut x on", "goal x", "plain y", "most x",
                    "least x", "bounds 2 x", "door x a 1 sure x", "door x a 1 toss 1/2 x y"]:
            for other in [" " + row, row + " ", row + "  ", " " + row + " "]:
                self.refused(self.told(THREE), other, NoRow)

    def test_two_blanks_side_by_side(self):
        for row in ["share  1/3", "room  q", "shut  x on", "shut x  on", "goal  x", "plain  y", "most  x", "least  x",
                    "bounds  2 x", "bounds 2  x", "door x a 1  sure x", "door x a 1 sure  x", "door x a  1 sure x",
                    "door x  a 1 sure x", "door  x a 1 sure x", "door x a 1 toss  1/2 x y", "door x a 1 toss 1/2  x y",
                    "door x a 1 mixed  x 1", "door x a 1 mixed x  1"]:
            self.refused(self.told(THREE), row, NoRow)

    def test_too_few_and_too_many_words(self):
        few = ["share", "room", "shut", "shut x", "goal", "plain", "most", "least", "bounds", "bounds 1", "run", "door",
               "door x", "door x a", "door x a 1", "door x a 1 sure", "door x a 1 toss", "door x a 1 toss 1/2",
               "door x a 1 toss 1/2 x", "door x a 1 even", "door x a 1 mixed", "door x a 1 mixed x",
               "door x a 1 mixed x 1/2 y"]
        many = ["share 1/2 1/2", "room q r", "shut x on on", "goal x y", "plain x y", "best x", "most x y", "least x y",
                "lots x", "bounds 1 x y", "bounds 1 2 x", "show x", "door x a 1 sure x y", "door x a 1 toss 1/2 x y z",
                "door x a 1 mixed x 1/2 y 1/2 z", "best best", "show show"]
        for rows in [[], THREE]:
            for row in few + many:
                self.refused(self.told(rows), row, NoRow)

    def test_sorts_of_doors_that_are_none(self):
        for sort in ["", "Sure", "any", "door", "1", "-", "sures", "x", "sure;"]:
            for behind in ["x", "1/2 x y", "x x", "x 1"]:
                self.refused(self.told(THREE), f"door x a 1 {sort} {behind}", NoRow)

    def test_they_go_ahead_of_all_else(self):
        self.each(THREE, [
            ("share x y", NoRow), ("room A B", NoRow), ("shut q q q", NoRow), ("goal q q", NoRow), ("most q q", NoRow),
            ("bounds 0", NoRow), ("bounds 0 q q", NoRow), ("door q", NoRow), ("door q A 05 any B", NoRow),
            ("door q A 05 sure", NoRow), ("door q A 05 sure B B", NoRow), ("door q A 05 toss 7 B", NoRow),
            ("door q A 05 even", NoRow), ("door q A 05 mixed B 7 B", NoRow),
        ])


class Kept(Refusals):
    def test_share(self):
        for rows in [[], THREE]:
            self.each(rows, [(f"share {word}", NoNumber) for word in NO_NUMBERS])
            self.each(rows, [(f"share {word}", NoShare) for word in
                             ["1", "2", "-1", "-1/2", "3/2", "-1/100", "100/99", "9" * 40, "1" + "0" * 39 + "/3"]])

    def test_room(self):
        for rows in [[], THREE]:
            self.each(rows, [(f"room {word}", NoName) for word in NO_WORDS])
        self.each(THREE, [("room x", NoName), ("room y", NoName), ("room z", NoName)])

    def test_a_room_of_a_doors_name(self):
        desk = self.told(THREE + ["room stay", "room on"])
        self.refused(desk, "room on", NoName)

    def test_shut(self):
        self.each([], [("shut x a", NoRoom, "x"), ("shut  ", NoRoom, "")])
        self.each(THREE, [(f"shut {word} {door}", NoRoom, word) for word in ["q", "stay"] + NO_WORDS
                          for door in ["on", "q", "A", ""]])
        self.each(THREE, [(f"shut x {word}", NoDoor, word) for word in ["q", "x", "y"] + NO_WORDS])
        self.each(THREE, [("shut y on", NoDoor, "on"), ("shut z stay", NoDoor, "stay"), ("shut z -", NoDoor, "-")])

    def test_goal_and_plain(self):
        for first in ["goal", "plain"]:
            self.each([], [(f"{first} x", NoRoom, "x"), (f"{first} ", NoRoom, "")])
            self.each(THREE, [(f"{first} {word}", NoRoom, word) for word in ["q", "on", "stay", "0"] + NO_WORDS])


class Doors(Refusals):
    def test_no_room_to_have_it(self):
        self.each([], [("door x a 1 sure x", NoRoom, "x"), ("door  a 1 sure x", NoRoom, "")])
        self.each(THREE, [(f"door {word} a 1 sure x", NoRoom, word) for word in ["q", "on"] + NO_WORDS])
        # It goes ahead of whatever is wrong behind it.
        self.each(THREE, [("door q A 05 sure B", NoRoom, "q"), ("door Q A 05 toss 7 B C", NoRoom, "Q"),
                          ("door q a 1 toss 7 x y", NoRoom, "q"), ("door q a 1 sure r", NoRoom, "q")])

    def test_names_that_are_no_words(self):
        for word in NO_WORDS:
            self.each(THREE, [
                (f"door x {word} 1 sure x", NoName), (f"door x a 1 sure {word}", NoName),
                (f"door x a 1 toss 1/2 {word} x", NoName), (f"door x a 1 toss 1/2 x {word}", NoName),
                (f"door x a 1 even {word}", NoName), (f"door x a 1 even x y {word} z", NoName),
                (f"door x a 1 mixed {word} 1", NoName), (f"door x a 1 mixed x 1 {word} 0", NoName),
            ])

    def test_numbers_that_are_none(self):
        for word in NO_NUMBERS:
            self.each(THREE, [
                (f"door x a {word} sure x", NoNumber), (f"door x a {word} even x y", NoNumber),
                (f"door x a 1 toss {word} x y", NoNumber), (f"door x a 1 mixed x {word}", NoNumber),
                (f"door x a 1 mixed x 1/2 y {word} z 1/2", NoNumber),
            ])

    def test_word_by_word_from_the_left(self):
        self.each(THREE, [
            ("door x A 05 sure B", NoName), ("door x a 05 sure B", NoNumber), ("door x A 1 toss 05 x y", NoName),
            ("door x a 1 toss 05 B y", NoNumber), ("door x a 1 mixed B 05", NoName),
            ("door x a 1 mixed x 05 B 1", NoNumber), ("door x a 1 mixed B 1 x 05", NoName),
            ("door x a 05 even B", NoNumber), ("door x A 1 mixed x 05", NoName),
        ])

    def test_words_go_ahead_of_chances(self):
        self.each(THREE, [
            ("door x a 1 toss 7 x B", NoName), ("door x a 1 toss -1 B x", NoName), ("door x a 1 mixed x 7 B 1", NoName),
            ("door x a 1 mixed x 7 y 05", NoNumber), ("door x a 1 mixed x 1/2 y 1/3 B 0", NoName),
        ])

    def test_chances(self):
        self.each(THREE, [
            ("door x a 1 toss 7 x y", NoChance), ("door x a 1 toss -1/2 x y", NoChance),
            ("door x a 1 toss 3/2 x y", NoChance), ("door x a 1 mixed x 2", NoChance),
            ("door x a 1 mixed x -1 y 2", NoChance), ("door x a 1 mixed x 1/2", NoChance),
            ("door x a 1 mixed x 0", NoChance), ("door x a 1 mixed x 1/2 y 1/3", NoChance),
            ("door x a 1 mixed x 1/2 y 1/2 z 1/2", NoChance), ("door x a 1 mixed x 3/2 y -1/2", NoChance),
            ("door x a 1 mixed x 1 x 1", NoChance),
            ("door x a 1 mixed x 1/2 y " + "4" * 39 + "9/" + "9" * 39 + "8", NoChance),
        ])

    def test_chances_go_ahead_of_names_that_are_taken_and_rooms_that_are_none(self):
        self.each(THREE, [
            ("door x on 1 toss 7 q r", NoChance), ("door x on 1 mixed q 1/2", NoChance),
            ("door x a 1 toss 2 q r", NoChance), ("door x on 1 toss -1 x y", NoChance),
            ("door x a 1 mixed q 1/2 r 1/4", NoChance),
        ])

    def test_names_that_are_taken(self):
        self.each(THREE, [("door x on 1 sure x", NoName), ("door x stay 1 even x y", NoName),
                          ("door y stay 1 sure y", NoName), ("door x on 1 toss 1/2 x y", NoName),
                          ("door x on 1 mixed x 1", NoName)])
        # They go ahead of rooms that are none.
        self.each(THREE, [("door x on 1 sure q", NoName), ("door x stay 1 even q r", NoName)])

    def test_names_are_taken_in_their_own_room_alone(self):
        desk = self.told(THREE + ["door y on 1 sure x", "door z stay 1 sure x", "door z on 1 sure x",
                                  "door x x 1 sure x"])
        self.refused(desk, "door y on 1 sure x", NoName)

    def test_ways_that_lead_to_no_room(self):
        self.each(THREE, [
            ("door x a 1 sure q", NoRoom, "q"), ("door x a 1 toss 1/2 q x", NoRoom, "q"),
            ("door x a 1 toss 1/2 x q", NoRoom, "q"), ("door x a 1 toss 1/2 q r", NoRoom, "q"),
            ("door x a 1 even x r q", NoRoom, "r"), ("door x a 1 even q r", NoRoom, "q"),
            ("door x a 1 mixed x 1/2 r 1/4 q 1/4", NoRoom, "r"), ("door x a 1 mixed stay 1", NoRoom, "stay"),
        ])

    def test_what_has_no_chance_is_no_way(self):
        self.each(THREE, [("door x a 1 mixed q 0 r 1", NoRoom, "r"), ("door x a 1 toss 0 q r", NoRoom, "r"),
                          ("door x a 1 toss 1 q r", NoRoom, "q"), ("door x a 1 mixed q 0 x 1/2 r 1/2", NoRoom, "r"),
                          ("door x a 1 mixed q 0 r 1/2 q 1/2", NoRoom, "q")])
        self.told(THREE + ["door x a 1 mixed q 0 x 1", "door x b 1 toss 0 q x", "door x c 1 toss 1 x q"])


class Asking(Refusals):
    def test_most_and_least(self):
        for first in ["most", "least"]:
            self.each([], [(f"{first} x", NoRoom, "x"), (f"{first} ", NoRoom, "")])
            self.each(THREE, [(f"{first} {word}", NoRoom, word) for word in ["q", "on", "0"] + NO_WORDS])

    def test_worth_with_not_as_many_words_as_rooms(self):
        self.each([], [("worth x", NoPlan, None), ("worth -", NoPlan, None), ("worth ", NoPlan, None)])
        self.each(THREE, [("worth", NoPlan, None), ("worth on", NoPlan, None), ("worth on stay", NoPlan, None),
                          ("worth on stay - -", NoPlan, None), ("worth on stay - ", NoPlan, None),
                          ("worth  on stay -", NoPlan, None), ("worth q Q", NoPlan, None),
                          ("worth - - - -", NoPlan, None)])

    def test_worth_word_by_word(self):
        self.each(THREE, [
            ("worth - stay -", NoPlan, 0), ("worth on - -", NoPlan, 1), ("worth on stay on", NoPlan, 2),
            ("worth on stay ", NoPlan, 2), ("worth on stay q", NoPlan, 2), ("worth on stay --", NoPlan, 2),
            ("worth q stay -", NoDoor, "q"), ("worth on on -", NoDoor, "on"), ("worth  stay -", NoDoor, ""),
            ("worth x stay -", NoDoor, "x"), ("worth -- stay -", NoDoor, "--"), ("worth 0 stay -", NoDoor, "0"),
            ("worth ON stay -", NoDoor, "ON"), ("worth on\n stay -", NoDoor, "on\n"),
            ("worth on; stay; -", NoDoor, "on;"),
        ])
        # The first word that is wrong decides, whichever class it is refused with.
        self.each(THREE, [("worth q - x", NoDoor, "q"), ("worth - q x", NoPlan, 0), ("worth on q x", NoDoor, "q"),
                          ("worth on - x", NoPlan, 1), ("worth - - x", NoPlan, 0)])

    def test_bounds(self):
        words = NO_NUMBERS + ["0", "-1", "41", "42", "100", "1/2", "3/2", "-40", "9" * 40, "01", "040", "x", "A"]
        for rows in [[], THREE]:
            # What is no number goes ahead of what is no room.
            self.each(rows, [(f"bounds {word} {room}", NoNumber) for word in words for room in ["x", "q", ""]])
        self.each([], [("bounds 1 x", NoRoom, "x"), ("bounds 40 ", NoRoom, "")])
        for word in ["q", "on"] + NO_WORDS:
            self.each(THREE, [(f"bounds {many} {word}", NoRoom, word) for many in [1, 2, 40]])

    def test_run(self):
        self.each([], [("run x", NoRoom, "x"), ("run ", NoRoom, ""), ("run x 0", NoRoom, "x")])
        # What is no room goes ahead of what is no number.
        self.each(THREE, [(f"run {word}{behind}", NoRoom, word) for word in ["q", "on"] + NO_WORDS
                          for behind in ["", " 0", " 05", " x y", " "]])
        for word in NO_NUMBERS:
            # Numbers are refused wherever they stand, in a room without doors too.
            self.each(THREE, [(f"run x {word}", NoNumber), (f"run x 0 1/2 {word} 3", NoNumber),
                              (f"run z {word}", NoNumber), (f"run x {word} {word}", NoNumber)])


class TakenLater(Refusals):
    """Nothing is kept of what was refused, and it is taken where it has become good."""

    def taken(self, rows, row, kind, field, between):
        """The row is refused, and taken behind the rows between; told there alone it does the same."""
        desk = self.told(rows)
        self.refused(desk, row, kind, field)
        for other in between:
            self.assertEqual(desk.say(other), "ok")
        self.assertEqual(desk.say(row), "ok")
        self.assertEqual(self.kept(desk), self.kept(self.told(rows + between + [row])))

    def test_rows_that_have_become_good(self):
        self.taken([], "door x a 1 sure x", NoRoom, "x", ["room x"])
        self.taken(["room x"], "door x a 1 sure y", NoRoom, "y", ["room y"])
        self.taken(["room x"], "door x a 1 even y z x", NoRoom, "y", ["room z", "room y"])
        self.taken(THREE, "door x on 5 sure z", NoName, None, ["shut x on"])
        self.taken(THREE, "shut z on", NoDoor, "on", ["door z on 5 sure x"])
        self.taken(THREE, "shut q a", NoRoom, "q", ["room q", "door q a 5 sure x"])
        self.taken(THREE, "goal q", NoRoom, "q", ["room q"])
        self.taken(THREE, "plain q", NoRoom, "q", ["room q", "goal q"])

    def test_questions_that_have_become_good(self):
        for row, kind, field, between, answer in [
                ("worth on stay - -", NoPlan, None, ["room w"], "1; 2; 0; 0"),
                ("worth - stay -", NoPlan, 0, ["shut x on", "shut x stay"], "0; 2; 0"),
                ("worth on stay up", NoPlan, 2, ["door z up 3 sure z"], "1; 2; 6"),
                ("worth up stay -", NoDoor, "up", ["door x up 3 sure z"], "3; 2; 0"),
                ("most q", NoRoom, "q", ["room q"], "0"), ("least q", NoRoom, "q", ["room q", "goal q"], "1"),
                ("bounds 1 q", NoRoom, "q", ["room q"], "0 1"), ("run q 0", NoRoom, "q", ["room q"], "q 0")]:
            desk = self.told(THREE)
            self.refused(desk, row, kind, field)
            for other in between:
                self.assertEqual(desk.say(other), "ok")
            self.assertEqual(desk.say(row), answer)

    def test_a_refused_goal_marks_no_later_room(self):
        desk = self.told(["room x"])
        self.refused(desk, "goal q", NoRoom, "q")
        self.assertEqual(desk.say("room q"), "ok")
        self.assertEqual((desk.say("most q"), desk.say("lots")), ("0", "x q"))

    def test_a_refused_door_takes_no_name(self):
        desk = self.told(["room x"])
        for row, kind, field in [("door x a 1 sure q", NoRoom, "q"), ("door x a 1 toss 2 x x", NoChance, None),
                                 ("door x a 05 sure x", NoNumber, None), ("door x a 1 sure X", NoName, None)]:
            self.refused(desk, row, kind, field)
        self.assertEqual(desk.say("door x a 1 sure x"), "ok")
        self.assertEqual(desk.say("show"), "share 0\nroom x\ndoor a 1 sure x")

    def test_a_refused_share_is_not_kept(self):
        desk = self.told(THREE)
        for row, kind in [("share 1", NoShare), ("share -1/2", NoShare), ("share 05", NoNumber)]:
            self.refused(desk, row, kind)
        self.assertEqual(desk.hall_now().share, (1, 2))

    def test_one_desks_refusals_do_not_reach_another(self):
        one = self.told(THREE)
        other = self.told(["room x"])
        before = self.kept(other)
        self.refused(one, "door x on 1 sure q", NoName)
        self.refused(one, "room x", NoName)
        self.assertEqual(self.kept(other), before)
        self.assertEqual(other.say("door x on 1 sure x"), "ok")


class State:
    """What a desk keeps, by the test's own reading: rooms, and for each their doors (name, pay, ways)."""

    def __init__(self):
        self.share = "0"
        self.doors = {}
        self.goals = set()

    def text(self):
        rows = ["share " + self.share]
        for room, doors in self.doors.items():
            rows.append("room " + room)
            for name, pay, ways in doors:
                mixed = " ".join(f"{to} {chance}" for to, chance in ways)
                rows.append(f"door {name} {pay} " + (f"sure {ways[0][0]}" if len(ways) == 1 else f"mixed {mixed}"))
        return "\n".join(rows)

    def door(self, room, name):
        return [door for door in self.doors[room] if door[0] == name]


def is_word(text):
    return re.fullmatch("[a-z]{1,8}", text) is not None


def is_number(text):
    if re.fullmatch("0|-?[1-9][0-9]{0,39}", text):
        return True
    found = re.fullmatch("-?([1-9][0-9]{0,39})/([1-9][0-9]{0,39})", text)
    return found is not None and found[2] != "1" and math.gcd(int(found[1]), int(found[2])) == 1


FORMS = {"share": "s N", "room": "s W", "shut": "s R D", "goal": "s R", "plain": "s R", "best": "s", "lots": "s",
         "show": "s", "most": "s R", "least": "s R", "bounds": "s B R"}


def behind_sort(words):
    """The kinds of the words behind the sort of a door, or None."""
    sort, behind = words[4], words[5:]
    if sort == "sure" and len(behind) == 1:
        return "W"
    if sort == "toss" and len(behind) == 3:
        return "NWW"
    if sort == "even" and behind:
        return "W" * len(behind)
    if sort == "mixed" and behind and len(behind) % 2 == 0:
        return "WN" * (len(behind) // 2)
    return None


def pairs_of(words):
    """The pairs (room, chance) that a good door is told with."""
    sort, behind = words[4], words[5:]
    if sort == "sure":
        return [(behind[0], Fraction(1))]
    if sort == "toss":
        return [(behind[1], Fraction(behind[0])), (behind[2], 1 - Fraction(behind[0]))]
    if sort == "even":
        return [(room, Fraction(1, len(behind))) for room in behind]
    return [(room, Fraction(chance)) for room, chance in zip(behind[::2], behind[1::2])]


def ways_of(pairs):
    rooms = list(dict.fromkeys(room for room, chance in pairs))
    sums = [(room, sum(chance for other, chance in pairs if other == room)) for room in rooms]
    return [(room, chance) for room, chance in sums if chance]


def door_refusals(state, words):
    """All that is to be refused of a row of a door, in the order of [40]."""
    kinds = behind_sort(words) if len(words) > 4 else None
    if kinds is None:
        yield NoRow, None
        return
    if words[1] not in state.doors:
        yield NoRoom, words[1]
        return
    for kind, word in zip("WN" + kinds, words[2:4] + words[5:]):
        if kind == "W" and not is_word(word):
            yield NoName, None
            return
        if kind == "N" and not is_number(word):
            yield NoNumber, None
            return
    pairs = pairs_of(words)
    if any(not 0 <= chance <= 1 for room, chance in pairs) or sum(chance for room, chance in pairs) != 1:
        yield NoChance, None
    if state.door(words[1], words[2]):
        yield NoName, None
    for room, chance in ways_of(pairs):
        if room not in state.doors:
            yield NoRoom, room


def worth_refusals(state, words):
    if len(words) - 1 != len(state.doors):
        yield NoPlan, None
        return
    for number, (room, word) in enumerate(zip(state.doors, words[1:])):
        if (word == "-") == bool(state.doors[room]):
            yield NoPlan, number
        elif state.doors[room] and not state.door(room, word):
            yield NoDoor, word


def refusals(state, words):
    """All that is to be refused of a row, in the order of [40]."""
    first = words[0]
    if first == "door":
        yield from door_refusals(state, words)
    elif first == "worth":
        yield from worth_refusals(state, words)
    elif first == "run" and len(words) > 1:
        if words[1] not in state.doors:
            yield NoRoom, words[1]
        yield from [(NoNumber, None) for word in words[2:] if not is_number(word)]
    elif first not in FORMS or len(FORMS[first].split(" ")) != len(words):
        yield NoRow, None
    else:
        yield from plain_refusals(state, words)


def plain_refusals(state, words):
    for kind, word in zip(FORMS[words[0]].split(" "), words):
        if kind == "N":
            if not is_number(word):
                yield NoNumber, None
            elif not 0 <= Fraction(word) < 1:
                yield NoShare, None
        elif kind == "W" and (not is_word(word) or word in state.doors):
            yield NoName, None
        elif kind == "B" and word not in [str(many) for many in range(1, 41)]:
            yield NoNumber, None
        elif kind == "R" and word not in state.doors:
            yield NoRoom, word
        elif kind == "D" and not (words[1] in state.doors and state.door(words[1], word)):
            yield NoDoor, word


def keep(state, words):
    """A good row, kept; whether it is one that is answered with ok."""
    first = words[0]
    if first == "share":
        state.share = words[1]
    elif first == "room":
        state.doors[words[1]] = []
    elif first == "door":
        state.doors[words[1]].append((words[2], words[3], ways_of(pairs_of(words))))
    elif first == "shut":
        state.doors[words[1]] = [door for door in state.doors[words[1]] if door[0] != words[2]]
    elif first == "goal":
        state.goals.add(words[1])
    elif first == "plain":
        state.goals.discard(words[1])
    else:
        return False
    return True


class Numbers:
    """Numbers that are always the same ones, without any order that meets the eye."""

    def __init__(self, seed):
        self.state = seed

    def below(self, many):
        self.state = (self.state * 6364136223846793005 + 1442695040888963407) % 2 ** 64
        return (self.state >> 33) % many

    def one_of(self, things):
        return things[self.below(len(things))]


def some_word(numbers, kind):
    """A word of that kind, now and then one that is none."""
    if numbers.below(12) == 0:
        return numbers.one_of(["", "A", "q", "x", "a", "05", "1/2", "2/4", "-", "-1", "41", "toolongaa", "0", "3/2",
                               "1\n"])
    if kind == "N":
        return numbers.one_of(["0", "1", "1/2", "1/3", "2/3", "-1", "-1/2", "3/2", "1/4"])
    if kind == "B":
        return numbers.one_of(["1", "2", "3", "0", "41"])
    if kind == "D":
        return numbers.one_of(["a", "b", "c"])
    return numbers.one_of(["x", "y", "z", "w"])


def some_row(numbers):
    """The words of a row of any form, now and then with a word too few or too many."""
    first = numbers.one_of(list(FORMS) + ["door"] * 8 + ["worth", "worth", "run", "room", "room", "shut"])
    if first == "door":
        sort = numbers.one_of(["sure", "toss", "even", "mixed", "mixed"])
        kinds = {"sure": "W", "toss": "NWW", "even": "W" * (1 + numbers.below(3)),
                 "mixed": "WN" * (1 + numbers.below(3))}
        words = [some_word(numbers, "W"), some_word(numbers, "D"), some_word(numbers, "N"), sort]
        words += [some_word(numbers, kind) for kind in kinds[sort]]
        if sort == "mixed" and numbers.below(2):
            words[4:] = [some_word(numbers, "W"), "1/2", some_word(numbers, "W"), "1/2"]
    elif first == "worth":
        words = [numbers.one_of(["a", "b", "c", "-", "-"]) for k in range(numbers.below(5))]
    elif first == "run":
        words = [some_word(numbers, "W")] + [some_word(numbers, "N") for k in range(numbers.below(3))]
    else:
        words = [some_word(numbers, kind) for kind in FORMS[first].split(" ")[1:]]
    if numbers.below(15) == 0:
        words = words[:-1] if numbers.below(2) else words + [some_word(numbers, "W")]
    return [first] + words


class RowsOfAnyForm(Refusals):
    def test_each_row_is_taken_or_refused_as_the_point_tells(self):
        found = {}
        for seed in range(60):
            numbers = Numbers(500 + seed)
            desk = Desk()
            state = State()
            for k in range(80):
                words = some_row(numbers)
                due = list(refusals(state, words))
                row = " ".join(words)
                key = (words[0], due[0][0] if due else None)
                found[key] = found.get(key, 0) + 1
                if due:
                    self.is_refused(desk, row, due[0])
                else:
                    self.assertEqual(desk.say(row) == "ok", keep(state, words), row)
                self.assertEqual(show(desk.hall_now()), state.text(), row)
                goals = [room for room in state.doors if desk.say("least " + room) == "1"]
                self.assertLessEqual(state.goals, set(goals), row)
            self.goals_are(desk, state)
        for key in [("door", kind) for kind in [None, NoRow, NoRoom, NoName, NoNumber, NoChance]] + [
                ("worth", None), ("worth", NoPlan), ("worth", NoDoor), ("shut", None), ("shut", NoDoor),
                ("share", NoShare), ("bounds", NoNumber), ("bounds", NoRoom), ("run", NoRoom), ("run", NoNumber),
                ("goal", NoRoom)]:
            self.assertGreater(found.get(key, 0), 3, key)

    def is_refused(self, desk, row, wanted):
        with self.assertRaises(HallError, msg=repr(row)) as taken:
            desk.say(row)
        kind = type(taken.exception)
        field = getattr(taken.exception, FIELDS[kind]) if kind in FIELDS else None
        self.assertEqual((kind, field), wanted, repr(row))

    def goals_are(self, desk, state):
        """All doors shut, a goal is come to from goals alone."""
        for room, doors in state.doors.items():
            for door in doors:
                desk.say(f"shut {room} {door[0]}")
        for room in state.doors:
            self.assertEqual(desk.say(f"most {room}"), "1" if room in state.goals else "0")


if __name__ == "__main__":
    unittest.main()
