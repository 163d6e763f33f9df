"""[39] the desk, its rows and its answers; [2] and [4] over it."""

import itertools
import math
import unittest
from fractions import Fraction

from chancehall.alike import splits_of
from chancehall.bounds import bounds_of
from chancehall.desk import Desk
from chancehall.doors import Sure
from chancehall.goals import greatest_chances, least_chances
from chancehall.halls import Hall
from chancehall.mending import best_of
from chancehall.runs import run_of
from chancehall.texts import read, show
from chancehall.words import number_of, number_text
from chancehall.worths import worths_of

SHARES = ["0", "1/2", "2/3", "99/100"]
# A share, and three rooms: x can go on to y, which pays; z has no door.
THREE = ["share 1/2", "room x", "room y", "room z", "door x stay 0 sure x", "door x on 0 sure y",
         "door y stay 1 sure y"]


class Numbers:
    """Numbers that are always the same ones, without any order that meets the eye."""

    def __init__(self, seed):
        self.state = seed

    def below(self, many):
        self.state = (self.state * 6364136223846793005 + 1442695040888963407) % 2 ** 64
        return (self.state >> 33) % many

    def one_of(self, things):
        return things[self.below(len(things))]

    def fraction(self, large):
        return Fraction(self.below(2 * large + 1) - large, 1 + self.below(large))


class Model:
    """What a desk is told, kept by the test itself: names, and numbers of Python's own."""

    def __init__(self):
        self.share = Fraction(0)
        self.doors = {}
        self.goals = set()

    def rooms(self):
        return list(self.doors)

    def plans(self):
        """All plans, each a dict from rooms to doors (name, pay, ways), None for a room without doors."""
        rows = itertools.product(*[doors or [None] for doors in self.doors.values()])
        return [dict(zip(self.doors, row)) for row in rows]

    def look(self, door, worths):
        """The look of a door by worths, nought where there is none."""
        if door is None:
            return Fraction(0)
        return door[1] + self.share * sum(chance * worths[room] for room, chance in door[2])

    def worths(self, plan):
        """The worths of a plan, by solving."""
        rooms = self.rooms()
        rows = []
        for room in rooms:
            row = [Fraction(int(room == other)) for other in rooms]
            if plan[room] is not None:
                for behind, chance in plan[room][2]:
                    row[rooms.index(behind)] -= self.share * chance
            rows.append(row + [Fraction(0) if plan[room] is None else plan[room][1]])
        return dict(zip(rooms, solved(rows)))

    def chances(self, plan):
        """How likely a goal is come to by a plan from each room, by solving."""
        rooms = self.rooms()
        near = set(self.goals)
        for k in rooms:
            near |= {room for room in rooms if plan[room] and any(way[0] in near for way in plan[room][2])}
        rows = []
        for room in rooms:
            row = [Fraction(int(room == other)) for other in rooms]
            if room in near - self.goals:
                for behind, chance in plan[room][2]:
                    row[rooms.index(behind)] -= chance
            rows.append(row + [Fraction(int(room in self.goals))])
        return dict(zip(rooms, solved(rows)))

    def best(self):
        """The greatest worth in each room, over all plans."""
        found = [self.worths(plan) for plan in self.plans()]
        return {room: max(worths[room] for worths in found) for room in self.doors}

    def lots(self):
        """The lots of alike rooms: pairs of rooms are struck out as long as a door parts them."""
        pairs = {(one, other) for one in self.doors for other in self.doors
                 if (one in self.goals) == (other in self.goals)}
        while True:
            kept = {(one, other) for one, other in pairs
                    if self.cards(one, pairs) == self.cards(other, pairs)}
            if kept == pairs:
                break
            pairs = kept
        told = []
        for room in self.doors:
            lot = [other for other in self.doors if (room, other) in pairs]
            if lot not in told:
                told.append(lot)
        return told

    def cards(self, room, pairs):
        """For each door its pay, and how likely it leads to each lot of rooms that are not parted yet."""
        told = set()
        for name, pay, ways in self.doors[room]:
            lots = {}
            for behind, chance in ways:
                lot = frozenset(other for other in self.doors if (behind, other) in pairs)
                lots[lot] = lots.get(lot, 0) + chance
            told.add((pay, frozenset(lots.items())))
        return told

    def bounds(self, many):
        """The low and the high in each room behind so many rounds."""
        ahead = None
        last = dict.fromkeys(self.doors, Fraction(0))
        for k in range(many):
            ahead = last
            last = {room: max([self.look(door, ahead) for door in doors], default=Fraction(0))
                    for room, doors in self.doors.items()}
        gains = [last[room] - ahead[room] for room in self.doors]
        often = self.share / (1 - self.share)
        return {room: (last[room] + often * min(gains), last[room] + often * max(gains)) for room in self.doors}

    def run(self, plan, room, numbers):
        """The rooms along a run, the one where it ends among them, and what is paid."""
        rooms = [room]
        paid = Fraction(0)
        often = Fraction(1)
        for number in numbers:
            if plan[room] is None:
                break
            paid += often * plan[room][1]
            often *= self.share
            rest = number - math.floor(number)
            for behind, chance in plan[room][2]:
                if rest < chance:
                    break
                rest -= chance
            room = behind
            rooms.append(room)
        return rooms, paid

    def text(self):
        """The text of the hall."""
        rows = [f"share {self.share}"]
        for room, doors in self.doors.items():
            rows.append(f"room {room}")
            for name, pay, ways in doors:
                if len(ways) == 1:
                    rows.append(f"door {name} {pay} sure {ways[0][0]}")
                else:
                    rows.append(f"door {name} {pay} mixed " + " ".join(f"{behind} {chance}" for behind, chance in ways))
        return "\n".join(rows)


def solved(rows):
    """The only answer of as many rows as columns, each with its right behind it."""
    rows = [list(row) for row in rows]
    for column in range(len(rows)):
        found = next(row for row in range(column, len(rows)) if rows[row][column] != 0)
        rows[column], rows[found] = rows[found], rows[column]
        rows[column] = [number / rows[column][column] for number in rows[column]]
        for other in range(len(rows)):
            if other != column:
                often = rows[other][column]
                rows[other] = [a - often * b for a, b in zip(rows[other], rows[column])]
    return [row[-1] for row in rows]


def some_words(numbers, rooms, large):
    """The words of a door behind its pay, of any sort, and its ways."""
    told = [numbers.one_of(rooms) for k in range(1 + numbers.below(4))]
    sort = numbers.one_of(["sure", "toss", "even", "mixed"])
    if sort == "sure":
        return f"sure {told[0]}", joined([(told[0], Fraction(1))])
    if sort == "toss":
        bottom = 1 + numbers.below(large)
        chance = Fraction(numbers.below(bottom + 1), bottom)
        return f"toss {chance} {told[0]} {told[-1]}", joined([(told[0], chance), (told[-1], 1 - chance)])
    if sort == "even":
        return "even " + " ".join(told), joined([(room, Fraction(1, len(told))) for room in told])
    parts = [1 + numbers.below(large) for room in told]
    pairs = [(room, Fraction(part, sum(parts))) for room, part in zip(told, parts)]
    return "mixed " + " ".join(f"{room} {chance}" for room, chance in pairs), joined(pairs)


def joined(pairs):
    chances = {}
    for room, chance in pairs:
        chances[room] = chances.get(room, 0) + chance
    return [(room, chance) for room, chance in chances.items() if chance != 0]


def some_desk(numbers, share, doors, large):
    """A desk and a model that are told the same: rooms of so many doors each, told in no order that meets the eye."""
    desk = Desk()
    model = Model()
    coming = [chr(97 + room) for room in range(len(doors))]
    left = dict(zip(coming, doors))
    while coming or any(left.values()):
        step = numbers.below(8)
        if step == 0 and coming:
            name = coming.pop(0)
            desk.say(f"room {name}")
            model.doors[name] = []
        elif step == 1:
            change_share(numbers, desk, model)
        elif model.doors:
            room = numbers.one_of(model.rooms())
            if step == 2:
                change_goal(numbers, desk, model, room)
            elif step == 3:
                shut_door(numbers, desk, model, left, room)
            elif left[room] > 0:
                tell_door(numbers, desk, model, left, room, large)
    desk.say(f"share {share}")
    model.share = Fraction(share)
    return desk, model


def change_share(numbers, desk, model):
    share = numbers.one_of(SHARES)
    desk.say(f"share {share}")
    model.share = Fraction(share)


def change_goal(numbers, desk, model, room):
    if numbers.below(2):
        for k in range(1 + numbers.below(2)):
            desk.say(f"goal {room}")
        model.goals.add(room)
    else:
        desk.say(f"plain {room}")
        model.goals.discard(room)


def tell_door(numbers, desk, model, left, room, large):
    taken = [door[0] for door in model.doors[room]]
    name = numbers.one_of([one for one in ["a", "b", "c", "d", "e", "f", "longest"] if one not in taken])
    pay = numbers.fraction(large)
    words, ways = some_words(numbers, model.rooms(), large)
    desk.say(f"door {room} {name} {pay} {words}")
    model.doors[room].append((name, pay, ways))
    left[room] -= 1


def shut_door(numbers, desk, model, left, room):
    if model.doors[room]:
        door = numbers.one_of(model.doors[room])
        desk.say(f"shut {room} {door[0]}")
        model.doors[room].remove(door)
        left[room] += 1


def some_desks(seed):
    """Desks with their models; rooms of no, one and several doors."""
    numbers = Numbers(seed)
    told = []
    for share in SHARES:
        for doors in [[], [0], [2], [0, 0], [1, 2], [2, 0, 2], [2, 1, 2, 0], [1, 3, 0, 2, 2]]:
            told += [some_desk(numbers, share, doors, large) for large in [1, 3, 1000]]
    return told


def plan_words(plan):
    return "".join(" -" if door is None else " " + door[0] for door in plan.values())


class Asked(unittest.TestCase):
    def told(self, rows):
        """A desk that is told the rows, each of which it answers with ok."""
        desk = Desk()
        for row in rows:
            self.ok(desk, row)
        return desk

    def ok(self, desk, row):
        self.says(desk, row, "ok")

    def says(self, desk, row, wanted):
        answer = desk.say(row)
        self.assertIs(type(answer), str)
        self.assertEqual(answer, wanted, row)

    def shows(self, desk, rows):
        """The hall's text, by show and by the hall itself."""
        self.says(desk, "show", "\n".join(rows))
        self.assertEqual(show(desk.hall_now()), "\n".join(rows))


class NoRooms(Asked):
    def test_a_new_desk(self):
        desk = Desk()
        hall = desk.hall_now()
        self.assertIs(type(hall), Hall)
        self.assertEqual((hall.share, hall.size(), hall.names()), ((0, 1), 0, []))
        for row, answer in [("best", ""), ("worth", ""), ("lots", ""), ("show", "share 0")]:
            self.says(desk, row, answer)

    def test_with_a_share(self):
        desk = self.told(["share 2/3"])
        for row, answer in [("best", ""), ("worth", ""), ("lots", ""), ("show", "share 2/3")]:
            self.says(desk, row, answer)


class Kept(Asked):
    def test_share(self):
        desk = self.told(["share 1/2"])
        self.assertEqual(desk.hall_now().share, (1, 2))
        for share in ["0", "99/100", "1/3", "1/3", "0"]:
            self.ok(desk, f"share {share}")
            self.shows(desk, [f"share {share}"])

    def test_the_share_counts_from_now_on(self):
        desk = self.told(["room x", "door x a 1 sure x"])
        for share, worth in [("1/2", "2"), ("0", "1"), ("99/100", "100"), ("2/5", "5/3")]:
            self.ok(desk, f"share {share}")
            self.says(desk, "best", f"x a {worth}")

    def test_rooms_in_the_order_in_which_they_are_told(self):
        desk = self.told(["room zoo", "room a", "room m", "room eightone"])
        self.shows(desk, ["share 0", "room zoo", "room a", "room m", "room eightone"])
        self.assertEqual(desk.hall_now().names(), ["zoo", "a", "m", "eightone"])

    def test_words_that_are_rows_are_names_too(self):
        desk = self.told(["room room", "room door", "room best", "door room show 1 sure door",
                          "door best sure 2 sure best"])
        self.says(desk, "best", "room show 1; door - 0; best sure 2")
        self.says(desk, "worth show - sure", "1; 0; 2")

    def test_doors_of_each_sort(self):
        desk = self.told(["room x", "room y", "room z", "door x a 1 sure z", "door x b -1/2 toss 1/3 y x",
                          "door x c 0 even z y z x", "door x d 7 mixed y 1/4 x 1/4 y 1/2", "door y a 2 even y"])
        self.shows(desk, ["share 0", "room x", "door a 1 sure z", "door b -1/2 mixed y 1/3 x 2/3",
                          "door c 0 mixed z 1/2 y 1/4 x 1/4", "door d 7 mixed y 3/4 x 1/4", "room y", "door a 2 sure y",
                          "room z"])

    def test_doors_of_earlier_rooms_told_later(self):
        desk = self.told(["room x", "door x a 1 sure x", "room y", "door y a 1 sure x", "door x b 2 sure y", "room z",
                          "door y b 3 even z x", "door x c 4 sure z"])
        self.shows(desk, ["share 0", "room x", "door a 1 sure x", "door b 2 sure y", "door c 4 sure z", "room y",
                          "door a 1 sure x", "door b 3 mixed z 1/2 x 1/2", "room z"])

    def test_rooms_of_chance_nought_need_not_be_there(self):
        desk = self.told(["room x", "room y", "door x a 1 mixed q 0 x 1", "door x b 1 toss 0 q x",
                          "door x c 1 toss 1 x q", "door x d 1 mixed x 1/2 q 0 y 1/2"])
        rows = ["share 0", "room x", "door a 1 sure x", "door b 1 sure x", "door c 1 sure x",
                "door d 1 mixed x 1/2 y 1/2", "room y"]
        self.shows(desk, rows)
        self.ok(desk, "room q")
        self.shows(desk, rows + ["room q"])

    def test_shut_doors(self):
        doors = {name: f"door {name} {pay} sure x" for pay, name in enumerate(["a", "b", "c"])}
        for names in itertools.permutations("abc"):
            desk = self.told(["room x", "room y", "door x a 0 sure x", "door x b 1 sure x", "door x c 2 sure x",
                              "door y a 0 sure x", "door y b 1 sure x", "door y c 2 sure x"])
            left = ["a", "b", "c"]
            for name in names:
                self.ok(desk, f"shut x {name}")
                left.remove(name)
                rows = ["share 0", "room x"] + [doors[one] for one in left] + ["room y"] + list(doors.values())
                self.shows(desk, rows)
            self.says(desk, "best", "x - 0; y c 2")

    def test_a_shut_door_may_be_told_again_as_the_last(self):
        desk = self.told(["room x", "door x a 1 sure x", "door x b 2 sure x", "shut x a", "door x a 3 even x x"])
        self.shows(desk, ["share 0", "room x", "door b 2 sure x", "door a 3 sure x"])

    def test_goals_told_twice_and_made_plain(self):
        desk = self.told(THREE + ["goal y", "goal y", "goal y"])
        self.says(desk, "most x", "1")
        self.ok(desk, "plain y")
        self.says(desk, "most x", "0")
        self.says(desk, "most y", "0")
        self.ok(desk, "plain y")
        self.ok(desk, "goal y")
        self.says(desk, "most x", "1")

    def test_goals_are_rooms_whatever_is_told_of_them_later(self):
        desk = self.told(["room x", "room y", "goal y", "room z", "door y on 1 sure z", "door x a 1 even y z",
                          "goal z"])
        self.says(desk, "most x", "1")
        self.ok(desk, "plain z")
        self.says(desk, "most x", "1/2")
        self.says(desk, "most y", "1")
        self.says(desk, "most z", "0")
        for row in ["shut y on", "share 1/2", "room w"]:
            self.ok(desk, row)
        self.says(desk, "most x", "1/2")
        self.says(desk, "most w", "0")

    def test_asking_changes_nothing(self):
        desk = self.told(THREE + ["goal y"])
        rows = ["best", "worth on stay -", "most x", "least x", "lots", "bounds 3 x", "run x 0 1/2", "show"]
        first = [desk.say(row) for row in rows]
        for k in range(3):
            self.assertEqual([desk.say(row) for row in reversed(rows)], first[::-1])
        self.assertEqual(first[-1], show(desk.hall_now()))


class Answers(Asked):
    def test_best(self):
        desk = self.told(THREE)
        self.says(desk, "best", "x on 1; y stay 2; z - 0")
        self.ok(desk, "door z pay -3/4 sure z")
        self.says(desk, "best", "x on 1; y stay 2; z pay -3/2")
        self.says(self.told(["room x"]), "best", "x - 0")

    def test_best_where_doors_are_as_good_is_the_last_of_the_mendings(self):
        desk = self.told(["room x", "door x a 1 sure x", "door x b 2 sure x", "door x c 2 sure x"])
        self.says(desk, "best", "x b 2")
        desk = self.told(["room x", "door x a 2 sure x", "door x b 1 sure x", "door x c 2 sure x"])
        self.says(desk, "best", "x a 2")

    def test_worth(self):
        desk = self.told(THREE)
        self.says(desk, "worth on stay -", "1; 2; 0")
        self.says(desk, "worth stay stay -", "0; 2; 0")
        self.says(self.told(["room x"]), "worth -", "0")
        self.says(self.told(["share 1/3", "room x", "door x a -1 sure x"]), "worth a", "-3/2")

    def test_most_and_least(self):
        desk = self.told(["room x", "room end", "room pit", "door x try 0 even end pit x", "door x wait 1 sure x",
                          "door x half 1 toss 1/4 end pit", "goal end"])
        for row, answer in [("most x", "1/2"), ("least x", "0"), ("most end", "1"), ("least end", "1"),
                            ("most pit", "0"), ("least pit", "0")]:
            self.says(desk, row, answer)
        self.ok(desk, "shut x wait")
        self.says(desk, "least x", "1/4")
        self.ok(desk, "plain end")
        for row in ["most x", "least x", "most end"]:
            self.says(desk, row, "0")

    def test_lots(self):
        desk = self.told(["room a", "room b", "room c", "room d"])
        self.says(desk, "lots", "a b c d")
        self.ok(desk, "goal c")
        self.says(desk, "lots", "a b d; c")
        self.ok(desk, "goal a")
        self.says(desk, "lots", "a c; b d")
        self.ok(desk, "plain c")
        self.says(desk, "lots", "a; b c d")
        self.ok(desk, "plain a")
        self.ok(desk, "door b on 1 sure a")
        self.ok(desk, "door d up 1 sure c")
        self.says(desk, "lots", "a c; b d")
        self.ok(desk, "goal c")
        self.says(desk, "lots", "a; b; c; d")

    def test_bounds(self):
        desk = self.told(THREE)
        for row, answer in [("bounds 1 x", "0 1"), ("bounds 1 y", "1 2"), ("bounds 1 z", "0 1"),
                            ("bounds 2 x", "1/2 1"), ("bounds 2 y", "3/2 2"), ("bounds 3 x", "3/4 1"),
                            ("bounds 3 z", "0 1/4"),
                            ("bounds 40 y", f"{2 - Fraction(1, 2 ** 39)} 2")]:
            self.says(desk, row, answer)

    def test_run(self):
        desk = self.told(THREE)
        for row, answer in [("run x", "x 0"), ("run z", "z 0"), ("run y 0", "y y 1"), ("run x 0", "x y 0"),
                            ("run x 1/2 -7 8/3", "x y y y 3/4"), ("run z 0 1/2", "z 0")]:
            self.says(desk, row, answer)

    def test_run_by_chances(self):
        desk = self.told(["share 1/2", "room x", "room y", "door x a 3 toss 1/3 x y"])
        for row, answer in [("run x 0", "x x 3"), ("run x 1/3", "x y 3"), ("run x 1/4 -3/4 2", "x x x x 21/4"),
                            ("run x 5/4 1/2 0 0", "x x y 9/2"), ("run x -1/3", "x y 3"), ("run x -1 0", "x x x 9/2")]:
            self.says(desk, row, answer)

    def test_a_row_as_long_as_they_come(self):
        desk = self.told(THREE)
        row = "run x" + " 0" * 4997
        self.assertEqual(len(row), 9999)
        paid = number_text((2 ** 4996 - 1, 2 ** 4996))
        self.says(desk, row, "x" + " y" * 4997 + " " + paid)

    def test_show_is_read_again(self):
        desk = self.told(THREE + ["door z a -5/7 mixed x 1/7 z 2/7 y 4/7", "shut x stay"])
        hall = read(desk.say("show"))
        self.assertEqual(hall.names(), ["x", "y", "z"])
        self.assertEqual(hall.offers(2), [("a", (-5, 7), [(0, (1, 7)), (2, (2, 7)), (1, (4, 7))])])
        self.assertEqual(show(hall), desk.say("show"))

    def test_numbers_of_forty_figures(self):
        pay = "-" + "9" * 40 + "/" + "1" + "0" * 39
        desk = self.told(["room x", f"door x a {pay} sure x"])
        self.says(desk, "best", f"x a {pay}")
        self.says(desk, "run x " + "7" * 40, f"x x {pay}")

    def test_as_many_rooms_and_doors_as_they_come(self):
        desk, model = some_desk(Numbers(401), "99/100", [6] * 12, 10)
        hall = desk.hall_now()
        self.assertEqual([len(hall.offers(room)) for room in range(12)], [6] * 12)
        told = [part.split(" ") for part in desk.say("best").split("; ")]
        worths = {room: Fraction(worth) for room, word, worth in told}
        for room, doors in model.doors.items():
            self.assertEqual(max(model.look(door, worths) for door in doors), worths[room])
        for room in ["a", "l"]:
            low, high = model.bounds(20)[room]
            self.says(desk, f"bounds 20 {room}", f"{low} {high}")


class OwnSums(Asked):
    """[4]: what the desk answers, held against the sums of the test's own."""

    def test_show(self):
        for desk, model in some_desks(411):
            self.says(desk, "show", model.text())

    def test_best(self):
        for desk, model in some_desks(412):
            best = model.best()
            told = [part.split(" ") for part in desk.say("best").split("; ")] if model.doors else []
            self.assertEqual([part[0] for part in told], model.rooms())
            for room, word, worth in told:
                self.assertEqual(worth, str(best[room]))
                named = {door[0]: door for door in model.doors[room]} or {"-": None}
                self.assertEqual(model.look(named[word], best), best[room])

    def test_worth_of_every_plan(self):
        for desk, model in some_desks(413):
            for plan in model.plans():
                worths = model.worths(plan)
                self.says(desk, "worth" + plan_words(plan), "; ".join(str(worths[room]) for room in model.rooms()))

    def test_most_and_least_over_every_plan(self):
        for desk, model in some_desks(414):
            found = [model.chances(plan) for plan in model.plans()]
            for room in model.rooms():
                self.says(desk, f"most {room}", str(max(chances[room] for chances in found)))
                self.says(desk, f"least {room}", str(min(chances[room] for chances in found)))

    def test_lots(self):
        numbers = Numbers(415)
        desks = some_desks(416)
        # With few pays and chances many rooms are alike.
        for k in range(60):
            desks.append(some_desk(numbers, "1/2", [numbers.below(3) for room in range(6)], 1))
        found = set()
        for desk, model in desks:
            lots = model.lots()
            self.says(desk, "lots", "; ".join(" ".join(lot) for lot in lots))
            found.add((len(model.doors), len(lots)))
        self.assertGreater(len([many for many, lots in found if 1 < lots < many]), 2)

    def test_bounds(self):
        for desk, model in some_desks(417):
            for many in [1, 2, 5]:
                for room in model.rooms():
                    low, high = model.bounds(many)[room]
                    self.says(desk, f"bounds {many} {room}", f"{low} {high}")
                    self.assertLessEqual(low, high)

    def test_best_worths_lie_between_the_bounds(self):
        for desk, model in some_desks(418)[::3]:
            best = model.best()
            for room in model.rooms():
                low, high = [Fraction(word) for word in desk.say(f"bounds 4 {room}").split(" ")]
                self.assertTrue(low <= best[room] <= high)

    def test_run_along_the_doors_that_best_tells(self):
        numbers = Numbers(419)
        for desk, model in some_desks(420):
            told = [part.split(" ") for part in desk.say("best").split("; ")] if model.doors else []
            plan = {}
            for room, word, worth in told:
                plan[room] = {door[0]: door for door in model.doors[room]}.get(word)
            for room in model.rooms():
                row = [numbers.fraction(9) for k in range(numbers.below(7))]
                rooms, paid = model.run(plan, room, row)
                words = " ".join(["run", room] + [str(number) for number in row])
                self.says(desk, words, " ".join(rooms + [str(paid)]))


class OtherModules(Asked):
    """What the desk answers is what the other modules tell of the hall as it stands."""

    def test_all_answers(self):
        numbers = Numbers(421)
        for desk, model in some_desks(422):
            hall = desk.hall_now()
            names = hall.names()
            goals = [room for room, name in enumerate(names) if name in model.goals]
            plan, worths = best_of(hall)
            doors = ["-" if door is None else hall.offers(room)[door][0] for room, door in enumerate(plan)]
            rows = [" ".join([name, door, number_text(worth)]) for name, door, worth in zip(names, doors, worths)]
            self.says(desk, "best", "; ".join(rows))
            self.says(desk, " ".join(["worth"] + doors), "; ".join(number_text(one) for one in worths_of(hall, plan)))
            self.says(desk, "show", show(hall))
            blocks = splits_of(hall, [5 if room in goals else 3 for room in range(len(names))])[-1]
            lots = [[name for name, block in zip(names, blocks) if block == one] for one in sorted(set(blocks))]
            self.says(desk, "lots", "; ".join(" ".join(lot) for lot in lots))
            for room, name in enumerate(names):
                self.says(desk, f"most {name}", number_text(greatest_chances(hall, goals)[1][room]))
                self.says(desk, f"least {name}", number_text(least_chances(hall, goals)[1][room]))
                lows, highs = bounds_of(hall, 3)
                self.says(desk, f"bounds 3 {name}", number_text(lows[room]) + " " + number_text(highs[room]))
                words = [str(numbers.fraction(20)) for k in range(numbers.below(6))]
                steps, paid, end = run_of(hall, plan, room, [number_of(word) for word in words])
                told = [names[step[0]] for step in steps] + [names[end], number_text(paid)]
                self.says(desk, " ".join(["run", name] + words), " ".join(told))

    def test_forty_rounds(self):
        for desk, model in some_desks(423)[1::6]:
            lows, highs = bounds_of(desk.hall_now(), 40)
            for room, name in enumerate(model.rooms()):
                self.says(desk, f"bounds 40 {name}", number_text(lows[room]) + " " + number_text(highs[room]))


class Own(Asked):
    def test_a_hall_told_stays_as_it_is(self):
        desk = self.told(THREE)
        hall = desk.hall_now()
        text = show(hall)
        for row in ["share 1/3", "room w", "door x far 9 sure w", "shut x stay", "shut y stay", "goal x",
                    "door z a 1 sure x"]:
            self.ok(desk, row)
            self.assertEqual(show(hall), text)
        self.assertEqual(hall.names(), ["x", "y", "z"])
        self.assertEqual(hall.share, (1, 2))
        self.assertNotEqual(desk.say("show"), text)

    def test_what_is_done_to_a_hall_does_not_reach_the_desk(self):
        desk = self.told(THREE)
        text = desk.say("show")
        hall = desk.hall_now()
        self.assertIsNot(hall, desk.hall_now())
        hall.share = (3, 4)
        hall.names().clear()
        hall.offers(0).clear()
        hall.offers(0)[0][2].clear()
        self.says(desk, "show", text)
        self.says(desk, "best", "x on 1; y stay 2; z - 0")
        self.assertEqual(show(desk.hall_now()), text)
        self.assertEqual(desk.hall_now().share, (1, 2))

    def test_halls_at_each_step(self):
        desk = Desk()
        halls = []
        texts = []
        for row in THREE + ["shut x stay", "share 0", "door x stay 5 sure z", "shut y stay", "room w"]:
            self.ok(desk, row)
            halls.append(desk.hall_now())
            texts.append(desk.say("show"))
        self.assertEqual([show(hall) for hall in halls], texts)
        self.assertEqual(len(set(texts)), len(texts))

    def test_two_desks_know_nothing_of_each_other(self):
        one = Desk()
        other = self.told(["share 1/2", "room x", "door x a 1 sure x", "goal x"])
        self.says(one, "show", "share 0")
        for row in ["room x", "room y", "door x a 2 sure y"]:
            self.ok(one, row)
        self.ok(other, "room y")
        self.says(one, "most x", "0")
        self.says(other, "most x", "1")
        self.says(one, "best", "x a 2; y - 0")
        self.says(other, "best", "x a 2; y - 0")
        self.ok(one, "shut x a")
        self.ok(one, "goal y")
        self.says(one, "show", "share 0\nroom x\nroom y")
        self.says(other, "show", "share 1/2\nroom x\ndoor a 1 sure x\nroom y")
        self.says(other, "lots", "x; y")
        self.ok(other, "plain x")
        self.says(other, "most y", "0")
        self.says(one, "most y", "1")

    def test_desks_told_the_same_answer_the_same(self):
        rows = THREE + ["goal y", "best", "lots", "most x", "run x 0 0", "bounds 2 x", "show"]
        one = Desk()
        other = Desk()
        answers = [one.say(row) for row in rows]
        self.assertEqual([other.say(row) for row in rows], answers)

    def test_the_argument_by_its_name(self):
        self.assertEqual(Desk().say(row="show"), "share 0")

    def test_a_hall_of_the_desk_is_a_hall_like_others(self):
        desk = self.told(["share 1/2", "room x", "door x a 1 sure x"])
        made = Hall((1, 2), [("x", [Sure("a", (1, 1), "x")])])
        self.assertEqual(desk.hall_now().offers(0), made.offers(0))
        self.assertEqual(best_of(desk.hall_now()), best_of(made))


if __name__ == "__main__":
    unittest.main()
