"""[13] halls read from their texts, [14] halls shown; [9], [10], [12] in their rows; [2] over both."""

import itertools
import re
import unittest
from fractions import Fraction

from chancehall.doors import Even, Mixed, Sure, Toss
from chancehall.errors import HallError, NoChance, NoName, NoRoom, NoRow, NoShare, NoText
from chancehall.halls import Hall
from chancehall.ratios import is_ratio
from chancehall.texts import read, show

ONE = (1, 1)
HALF = (1, 2)
FORTY = "9" * 40
ROW_WORDS = ["share", "room", "door", "sure", "toss", "even", "mixed", "best"]


# A thing with a mind of its own about being asked, to be refused all the same.
class Stubborn:
    def __eq__(self, other):
        raise RuntimeError("not to be compared")

    def __bool__(self):
        raise RuntimeError("not to be asked for its truth")

    def __len__(self):
        raise RuntimeError("not to be measured")

    def __str__(self):
        return "share 0"


NO_TEXTS = [None, True, False, 0, 1, 0.5, 1j, b"share 0", bytearray(b"share 0"), [], ["share 0"], ["share", "0"], (),
            ("share 0",), {}, {"share 0": 1}, {"share 0"}, (1, 2), Fraction(1, 2), object(), Stubborn(), str, Hall]

NO_NUMBERS = ["", "2/4", "3/1", "05", "+5", "-0", "0/2", "0/1", "1/0", "-1/1", "1/-2", "-1/-2", "--1", "1/", "/2", "/",
              "1/2/3", "1//2", "00", "-05", "01/2", "1/02", "1/2.", "0.5", "1e2", "1_0", "x", "half", "-", "1-", "1\t",
              "\t1", "6/4", "9" * 41, "1/" + "9" * 41, "-" + "9" * 41, "9" * 1000]
NO_NAMES = ["", "A", "Ab", "aB", "a1", "1", "0", "-", "a-b", "a_b", "a.", "a/b", "abcdefghi", "a\t", "\ta", "~", "a;"]

WHOLE = "\n".join([
    "share 9/10", "room yard", "door try -1/2 toss 1/3 gate yard", "door rest 0 sure yard", "room gate",
    "door on 5 even end yard end", "door off -7/3 mixed gate 1/4 end 1/2 gate 1/4", "room end",
])
WHOLE_SHOWN = "\n".join([
    "share 9/10", "room yard", "door try -1/2 mixed gate 1/3 yard 2/3", "door rest 0 sure yard", "room gate",
    "door on 5 mixed end 2/3 yard 1/3", "door off -7/3 mixed gate 1/2 end 1/2", "room end",
])
WHOLE_OFFERS = [
    [("try", (-1, 2), [(1, (1, 3)), (0, (2, 3))]), ("rest", (0, 1), [(0, ONE)])],
    [("on", (5, 1), [(2, (2, 3)), (0, (1, 3))]), ("off", (-7, 3), [(1, HALF), (2, HALF)])],
    [],
]


def offers_of(hall):
    return [hall.offers(room) for room in range(hall.size())]


def text_of(rows):
    return "\n".join(rows)


def with_door(row):
    """A text with a room x that has the door of this row, and rooms for all ways."""
    return text_of(["share 1/2", "room x", row, "room y", "room z"])


class Numbers:
    """Numbers that are always the same ones, without any order that meets the eye."""

    def __init__(self, seed):
        self.state = seed

    def below(self, many):
        self.state = (self.state * 6364136223846793005 + 1442695040888963407) % 2 ** 64
        return (self.state >> 33) % many

    def one_of(self, things):
        return things[self.below(len(things))]


class Refusing(unittest.TestCase):
    def is_refused(self, kind, make):
        with self.assertRaises(HallError) as taken:
            make()
        self.assertIs(type(taken.exception), kind)
        return taken.exception

    def no_row(self, text, row):
        found = self.is_refused(NoRow, lambda: read(text)).row
        self.assertEqual((type(found), found), (int, row), text)

    def is_hall(self, text, share, names, offers):
        hall = read(text)
        self.assertIs(type(hall), Hall)
        self.assertEqual((hall.share, hall.names(), offers_of(hall)), (share, names, offers))
        self.assertEqual(hall.size(), len(names))
        return hall


class Read(Refusing):
    def test_no_room(self):
        self.is_hall("share 0", (0, 1), [], [])
        self.is_hall("share 99/100", (99, 100), [], [])

    def test_one_room(self):
        self.is_hall("share 1/2\nroom x", HALF, ["x"], [[]])
        self.is_hall("share 1/2\nroom x\ndoor x 1 sure x", HALF, ["x"], [[("x", ONE, [(0, ONE)])]])

    def test_several_rooms(self):
        self.is_hall(WHOLE, (9, 10), ["yard", "gate", "end"], WHOLE_OFFERS)

    def test_argument_by_its_name(self):
        self.assertEqual(offers_of(read(text=WHOLE)), WHOLE_OFFERS)
        self.assertEqual(show(hall=read(WHOLE)), WHOLE_SHOWN)

    def test_rooms_without_doors(self):
        self.is_hall("share 0\nroom c\nroom a\nroom b", (0, 1), ["c", "a", "b"], [[], [], []])
        self.is_hall("share 0\nroom c\nroom a\ndoor d 1 sure b\nroom b", (0, 1), ["c", "a", "b"],
                     [[], [("d", ONE, [(2, ONE)])], []])

    def test_a_room_asked_and_a_door_asked(self):
        hall = read(WHOLE)
        self.assertEqual([hall.place(name) for name in ["yard", "gate", "end"]], [0, 1, 2])
        self.assertEqual([hall.door_at(0, "try"), hall.door_at(0, "rest"), hall.door_at(1, "off")], [0, 1, 1])

    def test_each_sort(self):
        for row, ways in [
            ("door a 1 sure z", [(2, ONE)]),
            ("door a 1 toss 1/3 z x", [(2, (1, 3)), (0, (2, 3))]),
            ("door a 1 toss 0 z x", [(0, ONE)]),
            ("door a 1 toss 1 z x", [(2, ONE)]),
            ("door a 1 toss 1/3 y y", [(1, ONE)]),
            ("door a 1 even z", [(2, ONE)]),
            ("door a 1 even z y", [(2, HALF), (1, HALF)]),
            ("door a 1 even z y x z", [(2, HALF), (1, (1, 4)), (0, (1, 4))]),
            ("door a 1 even z y x z y x z y", [(2, (3, 8)), (1, (3, 8)), (0, (1, 4))]),
            ("door a 1 mixed z 1", [(2, ONE)]),
            ("door a 1 mixed z 1/3 x 2/3", [(2, (1, 3)), (0, (2, 3))]),
            ("door a 1 mixed z 0 x 1 y 0", [(0, ONE)]),
            ("door a 1 mixed z 0 x 1/2 z 1/2", [(2, HALF), (0, HALF)]),
            ("door a 1 mixed z 1/8 y 1/8 x 1/8 z 1/8 y 1/8 x 1/8 z 1/8 y 1/8",
             [(2, (3, 8)), (1, (3, 8)), (0, (1, 4))]),
            ("door a 1 mixed y 1/10 x 1/5 z 0 x 0 y 3/10 y 0 z 2/5 x 0", [(1, (2, 5)), (0, (1, 5)), (2, (2, 5))]),
        ]:
            self.is_hall(with_door(row), HALF, ["x", "y", "z"], [[("a", ONE, ways)], [], []])

    def test_eight_rooms_of_their_own(self):
        names = ["ra", "rb", "rc", "rd", "re", "rf", "rg", "rh"]
        rows = ["share 0"] + ["room " + name for name in names]
        for turn in range(8):
            told = names[turn:] + names[:turn]
            ways = [((turn + k) % 8, (1, 8)) for k in range(8)]
            self.is_hall(text_of(rows + ["door a 0 even " + " ".join(told)]), (0, 1), names,
                         [[]] * 7 + [[("a", (0, 1), ways)]])
            self.is_hall(text_of(rows + ["door a 0 mixed " + " 1/8 ".join(told) + " 1/8"]), (0, 1), names,
                         [[]] * 7 + [[("a", (0, 1), ways)]])

    def test_pays_and_shares(self):
        for text, number in [
            ("0", (0, 1)), ("1", ONE), ("-1", (-1, 1)), ("10", (10, 1)), ("1/2", HALF), ("-1/2", (-1, 2)),
            ("7/3", (7, 3)), (FORTY, (int(FORTY), 1)), ("-" + FORTY, (-int(FORTY), 1)),
            ("1/" + FORTY, (1, int(FORTY))), ("-" + FORTY + "/2", (-int(FORTY), 2)),
        ]:
            for behind, ways in [("sure x", [(0, ONE)]), ("toss 1/2 x y", [(0, HALF), (1, HALF)]),
                                 ("even x", [(0, ONE)]), ("mixed y 1", [(1, ONE)])]:
                self.is_hall(with_door("door a " + text + " " + behind), HALF, ["x", "y", "z"],
                             [[("a", number, ways)], [], []])
        for text, number in [("0", (0, 1)), ("1/2", HALF), ("99/100", (99, 100)), ("1/" + FORTY, (1, int(FORTY))),
                             ("9" * 39 + "8/" + FORTY, (int(FORTY) - 1, int(FORTY)))]:
            self.is_hall("share " + text, number, [], [])

    def test_names_that_are_words_of_rows(self):
        rows = ["share 1/2"]
        for name in ROW_WORDS:
            rows.append("room " + name)
            for called in ROW_WORDS:
                rows.append("door " + called + " 1 sure " + called)
        self.is_hall(text_of(rows), HALF, ROW_WORDS,
                     [[(called, ONE, [(to, ONE)]) for to, called in enumerate(ROW_WORDS)]] * 8)
        for name in ROW_WORDS:
            at = ROW_WORDS.index(name)
            there = [] if at == 7 else [[]] * (7 - at)
            for row, ways in [
                ("door door 1 sure " + name, [(at, ONE)]),
                ("door door 1 toss 0 " + name + " " + name, [(at, ONE)]),
                ("door door 1 even " + name + " " + name, [(at, ONE)]),
                ("door door 1 mixed " + name + " 1", [(at, ONE)]),
            ]:
                rows = ["share 0"] + ["room " + word for word in ROW_WORDS]
                rows.insert(at + 2, row)
                self.is_hall(text_of(rows), (0, 1), ROW_WORDS, [[]] * at + [[("door", ONE, ways)]] + there)

    def test_names_of_one_sign_and_of_eight(self):
        self.is_hall("share 0\nroom a\ndoor z 0 sure abcdefgh\nroom abcdefgh\ndoor stuvwxyz 0 sure a", (0, 1),
                     ["a", "abcdefgh"], [[("z", (0, 1), [(1, ONE)])], [("stuvwxyz", (0, 1), [(0, ONE)])]])

    def test_as_large_as_they_come_and_larger(self):
        for many, doors in [(12, 6), (20, 9)]:
            names = ["r" + chr(97 + k) for k in range(many)]
            rows = ["share 99/100"]
            for room in range(many):
                rows.append("room " + names[room])
                for door in range(doors):
                    led = " ".join(names[(room + door + k) % many] for k in range(8))
                    rows.append("door d" + chr(97 + door) + " " + str(door) + " even " + led)
            self.is_hall(text_of(rows), (99, 100), names, [
                [("d" + chr(97 + door), (door, 1), [((room + door + k) % many, (1, 8)) for k in range(8)])
                 for door in range(doors)]
                for room in range(many)
            ])

    def test_a_way_of_chance_nought_may_lead_to_no_room(self):
        for row in ["door a 1 toss 0 no x", "door a 1 toss 1 x no", "door a 1 mixed no 0 x 1 nay 0"]:
            self.is_hall(with_door(row), HALF, ["x", "y", "z"], [[("a", ONE, [(0, ONE)])], [], []])

    def test_fractions_in_the_hall(self):
        hall = read(WHOLE)
        self.assertTrue(is_ratio(hall.share))
        for offers in offers_of(hall):
            for name, pay, ways in offers:
                self.assertTrue(is_ratio(pay) and all(is_ratio(chance) for room, chance in ways))


class NoTexts(Refusing):
    def test_things_that_are_no_text(self):
        for thing in NO_TEXTS:
            self.is_refused(NoText, lambda: read(thing))


class NoRows(Refusing):
    def test_the_text_without_signs(self):
        self.no_row("", 0)

    def test_another_row_first(self):
        for row in ["room x", "door a 1 sure x", "share", "share 0 0", "shares 0", "shar 0", "Share 0", "0", "0 share",
                    " share 0", "share 0 ", "share  0", "share\t0", "share 0\t", "\tshare 0", " ", "  ", "share ",
                    "share x", "room", "best", "show", "share 0;"]:
            self.no_row(row, 0)
            self.no_row(row + "\nshare 0", 0)
            self.no_row(row + "\nroom x\nroom y", 0)
        self.no_row("\nshare 0", 0)

    def test_numbers_of_the_share_that_are_none(self):
        for number in NO_NUMBERS:
            self.no_row("share " + number, 0)
            self.no_row("share " + number + "\nroom x\nroom y", 0)

    def test_share_again(self):
        for again in ["share 0", "share 9/10", "share 1/2", "share 1", "share 2", "share -1", "share x", "share"]:
            rows = WHOLE.split("\n")
            for at in range(1, len(rows) + 1):
                self.no_row(text_of(rows[:at] + [again] + rows[at:]), at)

    def test_a_door_ahead_of_any_room(self):
        for row in ["door a 1 sure x", "door a 1 toss 1/2 x x", "door a 1 even x", "door a 1 mixed x 1",
                    "door a 1 toss 2 x x", "door a 1 mixed x 2", "door a 1 mixed x 1/2"]:
            self.no_row("share 0\n" + row, 1)
            self.no_row("share 0\n" + row + "\nroom x", 1)
            self.no_row("share 0\n" + row + "\nroom x\n" + row, 1)

    def test_a_line_feed_at_the_end(self):
        self.no_row("share 0\n", 1)
        self.no_row(WHOLE + "\n", 8)
        self.no_row(WHOLE + "\n\n", 8)
        self.no_row(WHOLE + "\n ", 8)

    def test_a_row_without_signs(self):
        rows = WHOLE.split("\n")
        for at in range(len(rows) + 1):
            for row in ["", " ", "\t"]:
                self.no_row(text_of(rows[:at] + [row] + rows[at:]), at)

    def test_rows_that_are_none(self):
        rows = WHOLE.split("\n")
        for row in [
            "room", "room ", "room x y", "room x ", "room  x", " room x", "room\tx", "room x\t", "rooms x", "roo x",
            "Room x", "x", "best", "goal x", "shut x y", "show", "#", "doors a 1 sure yard", "Door a 1 sure yard",
            "door", "door ", "door a", "door a 1", "door a 1 ", "door a 1 sure", "door a 1 sure ", "door a sure yard",
            "door 1 sure yard", "door a 1 yard", "door a 1 sure yard end", "door a 1 sure yard ",
            "door a 1  sure yard", " door a 1 sure yard", "door  a 1 sure yard", "door a  1 sure yard",
            "door a 1 sure  yard", "door\ta 1 sure yard", "door a 1 sure yard\t", "door a 1 sure\tyard",
            "door a 1 sure 1 yard", "door a 1 sure yard 1", "door a 1 1 sure yard", "door a a 1 sure yard",
            "door a 1 toss", "door a 1 toss 1/2", "door a 1 toss 1/2 yard", "door a 1 toss yard end",
            "door a 1 toss 1/2 yard end end", "door a 1 toss 1/2 yard end ", "door a 1 toss 1/2 yard  end",
            "door a 1 toss yard 1/2 end", "door a 1 toss yard end 1/2", "door a 1 toss 1/2 1/2 yard end",
            "door a 1 toss  yard end", "door a 1 even", "door a 1 even ", "door a 1 even yard ",
            "door a 1 even  yard", "door a 1 even yard  end", "door a 1 even 1/2 yard", "door a 1 even yard 1",
            "door a 1 mixed", "door a 1 mixed ", "door a 1 mixed yard", "door a 1 mixed 1", "door a 1 mixed 1 yard",
            "door a 1 mixed yard 1/2 end", "door a 1 mixed yard 1/2 end ", "door a 1 mixed yard 1/2 1/2",
            "door a 1 mixed yard end", "door a 1 mixed yard 1/2 end 1/2 ", "door a 1 mixed yard 1/2  end 1/2",
            "door a 1 mixed  yard 1", "door a 1 mixed yard  1", "door a 1 mixed yard 1 end", "door a 1 mixed yard 1 1",
            "door a 1 sur yard", "door a 1 Sure yard", "door a 1 tosses 1/2 yard end", "door a 1 odd yard",
            "door a 1 door yard", "door a 1 best yard", "door a 1  yard", "door a 1 evens yard",
            "door a 1 none yard 1", "door a 1 x yard 1/2 end 1/2", "door sure 1 a yard",
        ]:
            for at in range(2, len(rows) + 1):
                self.no_row(text_of(rows[:at] + [row] + rows[at:]), at)

    def test_names_that_are_no_words(self):
        for name in NO_NAMES:
            self.no_row("share 0\nroom " + name, 1)
            for row in ["door {} 1 sure y", "door a 1 sure {}", "door {} 1 toss 1/2 y z", "door a 1 toss 1/2 {} z",
                        "door a 1 toss 1/2 y {}", "door a 1 toss 0 {} z", "door {} 1 even y", "door a 1 even {}",
                        "door a 1 even {} y z", "door a 1 even y {} z", "door a 1 even y z {}", "door {} 1 mixed y 1",
                        "door a 1 mixed {} 1", "door a 1 mixed {} 0 z 1", "door a 1 mixed y 1/2 {} 1/2",
                        "door a 1 mixed y 1 {} 0"]:
                self.no_row(with_door(row.replace("{}", name)), 2)

    def test_numbers_that_are_none(self):
        for number in NO_NUMBERS:
            for row in ["door a {} sure y", "door a {} toss 1/2 y z", "door a {} even y", "door a {} mixed y 1",
                        "door a 1 toss {} y z", "door a 1 mixed y {}", "door a 1 mixed y {} z 1",
                        "door a 1 mixed y 1 z {}"]:
                self.no_row(with_door(row.replace("{}", number)), 2)

    def test_other_signs_between_rows(self):
        for sign in ["\r\n", "\t", ";", " ", "\n\n", "\x0b", "\x0c", "\x85", "\u2028"]:
            self.assertNotEqual(self.is_refused(NoRow, lambda: read(WHOLE.replace("\n", sign))).row, None)


class Shares(Refusing):
    def test_shares_that_are_not_from_nought_to_below_one(self):
        for number in ["1", "2", "10", "-1", "-1/2", "3/2", "101/100", FORTY, "-" + FORTY, "-1/" + FORTY]:
            self.is_refused(NoShare, lambda: read("share " + number))
            self.is_refused(NoShare, lambda: read("share " + number + WHOLE[len("share 9/10"):]))

    def test_the_share_decides_ahead_of_rows_behind(self):
        for row in ["", "share 0", "room", "room X", "door a 1 sure x", "room x\ndoor a 1 toss 2 x x",
                    "room x\nroom x", "room x\ndoor a 1 sure no"]:
            self.is_refused(NoShare, lambda: read("share 1\n" + row))

    def test_a_row_of_the_share_that_is_none_is_refused_so(self):
        for row in ["share 1 ", "share  1", "share 1 1", "share 2/2", "share -0", "share 01", " share 1"]:
            self.no_row(row, 0)


BAD_CHANCES = [
    "door a 1 toss 2 y z", "door a 1 toss -1 y z", "door a 1 toss 3/2 y z", "door a 1 toss -1/2 y z",
    "door a 1 toss " + FORTY + " y z", "door a 1 toss -1/" + FORTY + " y z", "door a 1 toss 4/3 y y",
    "door a 1 mixed y 2", "door a 1 mixed y -1", "door a 1 mixed y 0", "door a 1 mixed y 1/2",
    "door a 1 mixed y 1/2 z 1/3", "door a 1 mixed y 1/2 z 2/3", "door a 1 mixed y 2 z -1", "door a 1 mixed y -1 z 2",
    "door a 1 mixed y 1 z 1", "door a 1 mixed y 3/2 z -1/2", "door a 1 mixed y 1/2 z 1/2 x 1/" + FORTY,
    "door a 1 mixed y 0 z 0", "door a 1 mixed y 1/2 y 1/3", "door a 1 mixed y 1/2 y 2/3",
]


class Chances(Refusing):
    def test_chances_that_are_refused(self):
        for row in BAD_CHANCES:
            self.is_refused(NoChance, lambda: read(with_door(row)))
            self.is_refused(NoChance, lambda: read("share 0\nroom x\nroom y\nroom z\n" + row))

    def test_names_and_numbers_in_the_row_go_ahead(self):
        for row in BAD_CHANCES:
            words = row.split(" ")
            for at in range(1, len(words)):
                if at == 3:
                    continue
                for wrong in ["05", "Bad", "", "2/4"]:
                    self.no_row(with_door(" ".join(words[:at] + [wrong] + words[at + 1:])), 2)
            self.no_row(with_door(row + " "), 2)
            self.no_row(with_door(" " + row), 2)
            self.no_row(with_door(row + " y"), 2)
            self.no_row(with_door(row.replace("1", "1 1", 1)), 2)

    def test_chances_go_ahead_of_what_the_hall_refuses(self):
        for row in BAD_CHANCES:
            # A twin of a door, a way to no room, a twin of a room, ahead of the row and behind it.
            self.is_refused(NoChance, lambda: read("share 0\nroom x\ndoor a 1 sure no\ndoor a 1 sure x\n" + row))
            self.is_refused(NoChance, lambda: read("share 0\nroom x\nroom x\n" + row + "\nroom x"))


# Wrong rows that may stand behind a room, with what they are refused for.
WRONG = [
    ("room X", NoRow), ("share 1", NoRow), ("door b 1 sure", NoRow), ("", NoRow), ("door b 2/4 sure x", NoRow),
    ("door b 1 toss 2 x x", NoChance), ("door b 1 mixed x 1/2", NoChance), ("door b 1 mixed x 1/2 x 3/2", NoChance),
    ("door b 1 toss 2 x X", NoRow),
]
# Rows that are refused by the hall alone.
LATE = ["room x", "door a 1 sure x", "door c 1 sure no", "door c 1 toss 1/2 x no"]


class Order(Refusing):
    def test_the_first_of_several_rows(self):
        good = ["share 1/2", "room x", "door a 1 sure x", "room y"]
        for many in [1, 2, 3]:
            for wrong in itertools.permutations(WRONG, many):
                rows = good + [row for row, kind in wrong]
                taken = self.is_refused(wrong[0][1], lambda: read(text_of(rows)))
                if wrong[0][1] is NoRow:
                    self.assertEqual(taken.row, 4)

    def test_good_rows_between(self):
        for one, other in itertools.permutations(WRONG, 2):
            rows = ["share 1/2", "room x", one[0], "door a 1 sure x", "room y", other[0], "room z"]
            taken = self.is_refused(one[1], lambda: read(text_of(rows)))
            if one[1] is NoRow:
                self.assertEqual(taken.row, 2)

    def test_rows_go_ahead_of_what_the_hall_refuses(self):
        for wrong, kind in WRONG:
            for late in LATE:
                for rows in [["share 0", "room x", "door a 1 sure x", late, wrong],
                             ["share 0", "room x", "door a 1 sure x", wrong, late]]:
                    taken = self.is_refused(kind, lambda: read(text_of(rows)))
                    if kind is NoRow:
                        self.assertEqual(taken.row, rows.index(wrong))

    def test_two_rooms_of_one_name(self):
        for rows in [["room x", "room x"], ["room x", "room y", "room x"], ["room y", "room x", "door a 1 sure no",
                     "room x"], ["room x", "door a 1 sure x", "door a 1 sure x", "room x"]]:
            self.is_refused(NoName, lambda: read(text_of(["share 0"] + rows)))

    def test_two_doors_of_one_name(self):
        for rows in [["door a 1 sure x", "door a 1 sure x"], ["door a 1 sure x", "door b 1 sure x", "door a 2 even x"],
                     ["door a 1 sure x", "door a 1 sure no"],
                     ["door a 1 sure x", "door a 1 sure x", "door b 1 sure no"]]:
            self.is_refused(NoName, lambda: read(text_of(["share 0", "room x"] + rows)))
            self.is_refused(NoName, lambda: read(text_of(["share 0", "room y", "room x"] + rows + ["room z"])))
        self.is_hall("share 0\nroom x\ndoor a 1 sure x\nroom y\ndoor a 1 sure x", (0, 1), ["x", "y"],
                     [[("a", ONE, [(0, ONE)])]] * 2)

    def test_ways_to_no_room(self):
        for row, name in [
            ("door a 1 sure no", "no"), ("door a 1 sure xx", "xx"), ("door a 1 toss 1/2 no nay", "no"),
            ("door a 1 toss 1/2 x nay", "nay"), ("door a 1 toss 0 no nay", "nay"),
            ("door a 1 even x nay no nay", "nay"),
            ("door a 1 mixed no 0 nay 1/2 x 1/2", "nay"), ("door a 1 mixed no 0 nay 1/2 no 1/2", "no"),
        ]:
            self.assertEqual(self.is_refused(NoRoom, lambda: read(with_door(row))).room, name)
            text = with_door(row) + "\ndoor a 1 sure x\ndoor a 1 sure never"
            self.assertEqual(self.is_refused(NoRoom, lambda: read(text)).room, name)

    def test_rooms_may_stand_behind_the_doors_that_lead_there(self):
        self.is_hall("share 0\nroom x\ndoor a 1 sure y\nroom y", (0, 1), ["x", "y"], [[("a", ONE, [(1, ONE)])], []])

    def test_nothing_is_kept_of_what_was_refused(self):
        for kind, text in [(NoRow, "share 0\nroom x\nroom y\nroom X"), (NoShare, "share 1\nroom x"),
                           (NoName, "share 0\nroom x\nroom x"), (NoChance, "share 0\nroom x\ndoor a 1 mixed x 2")]:
            self.is_refused(kind, lambda: read(text))
            self.is_hall("share 0", (0, 1), [], [])
            self.is_hall("share 0\nroom x", (0, 1), ["x"], [[]])


NAME = "[a-z]{1,8}"
NUMBER = "(?:0|-?[1-9][0-9]{0,39}|-?[1-9][0-9]{0,39}/[1-9][0-9]{0,39})"
FORMS = [
    ("sure", f"door ({NAME}) ({NUMBER}) sure ({NAME})"),
    ("toss", f"door ({NAME}) ({NUMBER}) toss ({NUMBER}) ({NAME}) ({NAME})"),
    ("even", f"door ({NAME}) ({NUMBER}) even ({NAME}(?: {NAME})*)"),
    ("mixed", f"door ({NAME}) ({NUMBER}) mixed ({NAME} {NUMBER}(?: {NAME} {NUMBER})*)"),
]


def in_lowest_terms(number):
    if "/" not in number:
        return True
    top, bottom = number.split("/")
    return int(bottom) > 1 and str(Fraction(number)) == number


def pairs_of(sort, found):
    """The rooms and chances of a door's row as a model reads them."""
    if sort == "sure":
        return [(found[3], Fraction(1))]
    if sort == "toss":
        return [(found[4], Fraction(found[3])), (found[5], 1 - Fraction(found[3]))]
    words = found[3].split(" ")
    if sort == "even":
        return [(room, Fraction(1, len(words))) for room in words]
    return [(words[k], Fraction(words[k + 1])) for k in range(0, len(words), 2)]


def modelled_row(row, rooms):
    """What a model makes of one row behind the first: a refusal, or None where the row is taken."""
    found = re.fullmatch(f"room ({NAME})", row)
    if found:
        rooms.append((found[1], []))
        return None
    for sort, form in FORMS:
        found = re.fullmatch(form, row)
        numbers = [word for word in row.split(" ") if re.fullmatch(NUMBER, word)]
        if found and rooms and all(in_lowest_terms(number) for number in numbers):
            pairs = pairs_of(sort, found)
            if any(not 0 <= chance <= 1 for room, chance in pairs) or sum(chance for room, chance in pairs) != 1:
                return NoChance
            rooms[-1][1].append((found[1], Fraction(found[2]), pairs))
            return None
    return NoRow


def modelled(rows):
    """What a model reads behind a good first row: (refusal, row) or the rooms."""
    rooms = []
    for number, row in enumerate(rows, start=1):
        refusal = modelled_row(row, rooms)
        if refusal:
            return (refusal, number)
    return rooms


def seen(rows):
    """What the program reads, as far as rows alone decide, in the model's form."""
    try:
        hall = read(text_of(["share 1/2"] + rows))
    except NoRow as taken:
        return (NoRow, taken.row)
    except NoChance:
        return (NoChance, None)
    except (NoName, NoRoom):
        return "refused by the hall"
    names = hall.names()
    return [
        (names[room], [(name, Fraction(*pay), {names[to]: Fraction(*chance) for to, chance in ways})
                       for name, pay, ways in hall.offers(room)])
        for room in range(hall.size())
    ]


def joined(pairs):
    sums = {}
    for room, chance in pairs:
        sums[room] = sums.get(room, 0) + chance
    return {room: chance for room, chance in sums.items() if chance}


class ByModel(Refusing):
    def is_as_modelled(self, rows):
        wanted = modelled(rows)
        found = seen(rows)
        if isinstance(wanted, tuple):
            self.assertEqual(found, (wanted[0], wanted[1] if wanted[0] is NoRow else None), rows)
        elif found == "refused by the hall":
            names = [name for name, doors in wanted]
            called = [(name, door[0]) for name, doors in wanted for door in doors]
            lost = [room for name, doors in wanted for door in doors for room in joined(door[2]) if room not in names]
            self.assertTrue(len(set(names)) < len(names) or len(set(called)) < len(called) or lost, rows)
        else:
            self.assertEqual(found, [
                (name, [(door, pay, joined(pairs)) for door, pay, pairs in doors]) for name, doors in wanted
            ], rows)

    def test_words_put_together(self):
        numbers = Numbers(13)
        words = ["x", "y", "x", "y", "1", "1/2", "0", "1/2", "sure", "toss", "even", "mixed", "2/4", "X", "", "door"]
        taken = 0
        for turn in range(20000):
            behind = [numbers.one_of(words) for k in range(numbers.below(6))]
            row = " ".join(["door", "a", "1", numbers.one_of(["sure", "toss", "even", "mixed"])] + behind)
            self.is_as_modelled(["room x", "room y", row])
            taken += isinstance(modelled(["room x", "room y", row]), list)
        self.assertGreater(taken, 500)

    def test_rows_with_one_sign_changed(self):
        rows = WHOLE.split("\n")[1:]
        for at, row in enumerate(rows):
            for place in range(len(row) + 1):
                for sign in " ab19/-\nA":
                    for changed in [row[:place] + sign + row[place:], row[:place] + sign + row[place + 1:],
                                    row[:place] + row[place + 1:]]:
                        self.is_as_modelled("\n".join(rows[:at] + [changed] + rows[at + 1:]).split("\n"))

    def test_rows_in_any_order(self):
        rows = ["room x", "room y", "door a 1 even x y", "door b 1 toss 2 x y", "door c 1", "door d 1 mixed x 1"]
        for many in range(len(rows) + 1):
            for order in itertools.permutations(rows, many):
                self.is_as_modelled(list(order))


def every_sort():
    return Hall((2, 7), [
        ("x", [Sure("a", (-3, 2), "z"), Toss("b", (0, 1), (1, 3), "z", "x"), Toss("c", (1, 1), (0, 1), "z", "y"),
               Toss("d", (1, 1), (2, 5), "y", "y")]),
        ("y", []),
        ("z", [Even("a", (7, 1), ["y"]), Even("b", (7, 1), ["z", "y", "z"]), Even("c", (7, 1), ["x", "x", "x"]),
               Mixed("d", (1, 9), [("y", ONE)]), Mixed("e", (1, 9), [("y", (0, 1)), ("z", HALF), ("y", HALF)]),
               Mixed("f", (1, 9), [("y", (0, 1)), ("z", ONE), ("x", (0, 1))])]),
    ])


EVERY_SHOWN = "\n".join([
    "share 2/7", "room x", "door a -3/2 sure z", "door b 0 mixed z 1/3 x 2/3", "door c 1 sure y", "door d 1 sure y",
    "room y", "room z", "door a 7 sure y", "door b 7 mixed z 2/3 y 1/3", "door c 7 sure x", "door d 1/9 sure y",
    "door e 1/9 mixed y 1/2 z 1/2", "door f 1/9 sure z",
])


class Shown(Refusing):
    def is_same_again(self, hall):
        text = show(hall)
        self.assertIs(type(text), str)
        again = self.is_hall(text, hall.share, hall.names(), offers_of(hall))
        self.assertEqual(show(again), text)
        for room in range(hall.size()):
            for number, offer in enumerate(hall.offers(room)):
                self.assertEqual(again.door_at(room, offer[0]), number)
        return text

    def test_no_room(self):
        self.assertEqual(self.is_same_again(Hall((0, 1), [])), "share 0")
        self.assertEqual(self.is_same_again(Hall((99, 100), [])), "share 99/100")

    def test_one_room(self):
        self.assertEqual(self.is_same_again(Hall(HALF, [("x", [])])), "share 1/2\nroom x")
        self.assertEqual(self.is_same_again(Hall(HALF, [("x", [Sure("b", (-4, 1), "x")])])),
                         "share 1/2\nroom x\ndoor b -4 sure x")

    def test_every_sort(self):
        self.assertEqual(self.is_same_again(every_sort()), EVERY_SHOWN)

    def test_rooms_and_doors_keep_their_order(self):
        for names in itertools.permutations(["b", "c", "a"]):
            hall = Hall((0, 1), [(name, [Sure(called, (0, 1), name) for called in names]) for name in names])
            rows = ["share 0"]
            for name in names:
                rows.append("room " + name)
                rows += ["door " + called + " 0 sure " + name for called in names]
            self.assertEqual(self.is_same_again(hall), text_of(rows))

    def test_ways_keep_their_order(self):
        for rooms in itertools.permutations(["x", "y", "z"]):
            hall = Hall((0, 1), [("x", [Even("a", ONE, list(rooms))]), ("y", []), ("z", [])])
            row = "door a 1 mixed " + " 1/3 ".join(rooms) + " 1/3"
            self.assertEqual(self.is_same_again(hall), text_of(["share 0", "room x", row, "room y", "room z"]))

    def test_what_was_read(self):
        self.assertEqual(self.is_same_again(read(WHOLE)), WHOLE_SHOWN)
        self.assertEqual(self.is_same_again(read(WHOLE_SHOWN)), WHOLE_SHOWN)

    def test_names_that_are_words_of_rows(self):
        hall = Hall(HALF, [(name, [Even(called, ONE, ROW_WORDS) for called in ROW_WORDS]) for name in ROW_WORDS])
        self.is_same_again(hall)

    def test_eight_ways(self):
        names = ["r" + sign for sign in "hgfedcba"]
        hall = Hall((1, 100), [(name, [Even("a", (1, 3), names), Even("b", (1, 3), names * 2)]) for name in names])
        row = " 1/3 mixed " + " 1/8 ".join(names) + " 1/8"
        rows = ["share 1/100"]
        for name in names:
            rows += ["room " + name, "door a" + row, "door b" + row]
        self.assertEqual(self.is_same_again(hall), text_of(rows))

    def test_numbers_of_forty_figures(self):
        large = int(FORTY)
        hall = Hall((large - 1, large), [
            ("x", [Sure("a", (large, 1), "x"), Sure("b", (-large, large - 1), "x"),
                   Toss("c", (1, large), (large - 1, large), "x", "y")]),
            ("y", []),
        ])
        self.assertIn("door c 1/" + FORTY + " mixed x " + FORTY[:-1] + "8/" + FORTY + " y 1/" + FORTY,
                      self.is_same_again(hall))

    def test_numbers_of_more_figures_are_written(self):
        large = 10 ** 59 + 7
        hall = Hall((large - 1, large), [("x", [Sure("a", (-large, 1), "x")])])
        self.assertEqual(show(hall), f"share {large - 1}/{large}\nroom x\ndoor a -{large} sure x")
        self.no_row(show(hall), 0)

    def test_the_hall_stays(self):
        hall = every_sort()
        kept = (hall.share, hall.names(), offers_of(hall))
        text = show(hall)
        self.assertEqual((hall.share, hall.names(), offers_of(hall)), kept)
        for offers in offers_of(hall):
            offers.clear()
        hall.names().clear()
        self.assertEqual(show(hall), text)

    def test_two_halls_of_one_text(self):
        one = read(WHOLE)
        other = read(WHOLE)
        for name, pay, ways in other.offers(0):
            ways.clear()
        read("share 0\nroom yard")
        self.assertEqual((offers_of(one), offers_of(other)), (WHOLE_OFFERS, WHOLE_OFFERS))

    def test_halls_made_of_many_numbers(self):
        numbers = Numbers(14)
        for turn in range(300):
            names = ["x", "y", "z", "xy", "door"][:1 + numbers.below(5)]
            rooms = []
            for name in names:
                doors = []
                for called in ["a", "b", "c"][:numbers.below(4)]:
                    parts = [1 + numbers.below(5) for k in range(1 + numbers.below(8))]
                    pairs = [(numbers.one_of(names), Fraction(part, sum(parts))) for part in parts]
                    pay = Fraction(numbers.below(41) - 20, 1 + numbers.below(9))
                    doors.append(Mixed(called, (pay.numerator, pay.denominator), [
                        (room, (chance.numerator, chance.denominator)) for room, chance in pairs]))
                rooms.append((name, doors))
            self.is_same_again(Hall((1 + numbers.below(100), 101), rooms))


if __name__ == "__main__":
    unittest.main()
