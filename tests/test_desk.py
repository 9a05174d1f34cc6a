"""Points 2, 3 and 15: a desk that is told lines, beside a cellar with which the same is done."""

import random

from dimcellar.bottles import Bottle
from dimcellar.cellars import Cellar
from dimcellar.desk import Desk
from dimcellar.errors import (
    Full, Gone, NoDeed, NoHold, NoMaker, NoMonth, NoNumber, NoPlace, NoRooms, NoSize, NoWho, NoYear, TooMany)
from tests.plain_desk import fate_text, listed, plain_answer, questions
from tests.things import Looked, anything_but, how_many_bottles, is_number, outcome

ROOMS = (2, 1)
# What a desk has been told, ahead of most tests here: on the shelf 0.0 there are 3 and 0, on 0.1 is 2, on 1.0 none.
TOLD = ("lay ann 1999 75 0 0", "lay bea 2000 37 1 0", "lay ann 1999 75 0 1", "lay ann 1999 75 0 0", "move 0 0 0",
        "drink 1 7 zoe")
MAKERS = ("ann", "bea", "ann", "zoe", "none", "here", "Ann", "abcdefghi", "-", "an\tn", "\n", "7")
WHOS = ("-", "-", "ann", "none", "here", "ok", "abcdefgh", "abcdefghi", "zoe")


def desk_of_sorts():
    desk = Desk(ROOMS, 2)
    for line in TOLD:
        desk.say(line)
    return desk


def some_deed(chance, rooms, many):
    """A line and the deed of a cellar that it tells, now and then such that are refused."""
    number = chance.randrange(many + 1) if chance.randrange(9) else chance.choice((40, 41, 10 ** 39))
    room = chance.randrange(len(rooms) + (chance.randrange(9) == 0))
    shelf = chance.randrange(4 if chance.randrange(9) == 0 or room == len(rooms) else rooms[room])
    month = chance.choice((0, 1, 17, 998, 999, 999, 1000))
    who = chance.choice(WHOS)
    kind = chance.choice(("lay",) * 8 + ("move", "move", "drink", "give", "break", "undo"))
    if kind == "lay":
        maker = chance.choice(MAKERS)
        year = chance.choice((1900, 1999, 1999, 1999, 2100, 1899, 2101))
        size = chance.choice((37, 75, 75, 75, 150, 50))
        return f"lay {maker} {year} {size} {room} {shelf}", lambda cellar: str(
            cellar.lay(Bottle(maker, year, size), room, shelf))
    if kind == "move":
        return f"move {number} {room} {shelf}", lambda cellar: cellar.move(number, room, shelf)
    if kind == "break":
        return f"break {number} {month}", lambda cellar: cellar.smash(number, month)
    if kind == "undo":
        return "undo", lambda cellar: cellar.undo()
    deed = {"drink": Cellar.drink, "give": Cellar.give}[kind]
    return f"{kind} {number} {month} {who}", lambda cellar: deed(cellar, number, month, "" if who == "-" else who)


class Asked(Looked):
    def assert_alike(self, desk, cellar, rooms):
        """The desk answers all questions, and refuses some, as the cellar does."""
        for line in questions(rooms, how_many_bottles(cellar)):
            self.assert_same(outcome(desk.say, line), outcome(plain_answer, cellar, line))

    def assert_answers(self, desk, told):
        for line, answer in told:
            self.assert_same(desk.say(line), answer)


class BesideACellar(Asked):
    def run_deeds(self, seed, rooms, hold, many):
        chance = random.Random(seed)
        desk, cellar = Desk(rooms, hold), Cellar(rooms, hold)
        for _ in range(many):
            line, deed = some_deed(chance, rooms, how_many_bottles(cellar))
            name, told = outcome(deed, cellar)
            self.assert_same(outcome(desk.say, line), (name, "ok" if told is None else told))
            self.assert_alike(desk, cellar, rooms)
        while outcome(cellar.undo)[0] == "told":
            self.assert_same(desk.say("undo"), "ok")
            self.assert_alike(desk, cellar, rooms)
        self.refused(NoDeed, desk.say, "undo")

    def test_small_ones(self):
        for seed in range(20):
            self.run_deeds(seed, (1, 2), 2, 40)

    def test_larger_ones(self):
        for seed in range(20, 32):
            self.run_deeds(seed, (2, 4, 1), 9, 40)
        self.run_deeds(32, (4, 4, 4, 4), 1, 40)

    def test_forty_bottles_and_one_more(self):
        desk, cellar = Desk((4, 4), 9), Cellar((4, 4), 9)
        for number in range(40):
            room, shelf = number // 20, number // 5 % 4
            self.assert_same(desk.say(f"lay ann {1950 + number} 37 {room} {shelf}"), str(number))
            cellar.lay(Bottle("ann", 1950 + number, 37), room, shelf)
        self.refused_with(TooMany, {"many": 41, "most": 40}, desk.say, "lay ann 1999 75 0 0")
        self.assert_alike(desk, cellar, (4, 4))
        self.assert_same(desk.say("count"), "40")


class Answers(Asked):
    def test_deeds_one_after_another(self):
        self.assert_answers(Desk((2, 1), 2), [
            ("count", "0"), ("all", "0.0: / 0.1: / 1.0:"), ("shelf 0 0", "none"),
            ("lay ann 1999 75 0 0", "0"), ("fate 0", "here"), ("twins 0", "none"), ("count", "1"),
            ("lay ann 1999 75 1 0", "1"), ("twins 0", "1"), ("twins 1", "0"), ("all", "0.0: 0 / 0.1: / 1.0: 1"),
            ("lay ann 1999 37 0 0", "2"), ("twins 0", "1"), ("twins 2", "none"), ("shelf 0 0", "0 2"),
            ("lay ann 1999 75 1 0", "3"), ("twins 1", "0 3"), ("move 0 0 0", "ok"), ("shelf 0 0", "2 0"),
            ("move 2 0 1", "ok"), ("all", "0.0: 0 / 0.1: 2 / 1.0: 1 3"), ("drink 1 0 ann", "ok"),
            ("fate 1", "drunk 0 ann"), ("give 3 999 -", "ok"), ("fate 3", "given 999 -"), ("shelf 1 0", "none"),
            ("break 0 30", "ok"), ("fate 0", "broken 30"), ("count", "1"), ("all", "0.0: / 0.1: 2 / 1.0:"),
            ("undo", "ok"), ("fate 0", "here"), ("undo", "ok"), ("undo", "ok"), ("fate 1", "here"),
            ("twins 0", "1 3"), ("count", "4"), ("undo", "ok"), ("shelf 0 0", "2 0")])

    def test_each_somebody(self):
        for who, told in (("-", "-"), ("a", "a"), ("none", "none"), ("here", "here"), ("ok", "ok"), ("zzzzzzzz",) * 2):
            for deed, word in (("drink", "drunk"), ("give", "given")):
                desk = desk_of_sorts()
                self.assert_answers(desk, [(f"{deed} 0 12 {who}", "ok"), ("fate 0", f"{word} 12 {told}"),
                                           ("undo", "ok"), ("fate 0", "here")])

    def test_makers_called_like_answers(self):
        self.assert_answers(Desk((1,)), [
            ("lay none 1999 75 0 0", "0"), ("lay here 1999 75 0 0", "1"), ("lay none 1999 75 0 0", "2"),
            ("twins 0", "2"), ("twins 1", "none"), ("shelf 0 0", "0 1 2"), ("lay undo 1900 37 0 0", "3"),
            ("lay a 2100 150 0 0", "4"), ("lay abcdefgh 2000 75 0 0", "5"), ("count", "6")])

    def test_bottles_that_are_gone(self):
        desk = desk_of_sorts()
        self.assert_answers(desk, [("fate 1", "drunk 7 zoe"), ("shelf 1 0", "none"), ("count", "3"),
                                   ("twins 0", "2 3"), ("all", "0.0: 3 0 / 0.1: 2 / 1.0:")])
        self.refused_with(Gone, {"number": 1, "fate": ("drunk", 7, "zoe")}, desk.say, "twins 1")
        desk.say("break 2 5")
        self.assert_answers(desk, [("fate 2", "broken 5"), ("twins 0", "3"), ("twins 3", "0")])
        self.refused_with(Gone, {"number": 2, "fate": ("broken", 5)}, desk.say, "twins 2")

    def test_a_hold_left_out_is_six(self):
        desk = Desk((1,))
        for number in range(6):
            self.assert_same(desk.say("lay ann 1999 75 0 0"), str(number))
        self.refused_with(Full, {"room": 0, "shelf": 0}, desk.say, "lay ann 1999 75 0 0")

    def test_by_names(self):
        desk = Desk(hold=1, rooms=(1, 2))
        self.assert_same(desk.say(line="lay ann 1999 75 1 1"), "0")
        self.refused_with(Full, {"room": 1, "shelf": 1}, desk.say, "lay ann 1999 75 1 1")
        self.assert_same(Desk(rooms=(3,)).say("all"), "0.0: / 0.1: / 0.2:")

    def test_the_same_question_again(self):
        desk = desk_of_sorts()
        lines = questions(ROOMS, 4)
        told = [outcome(desk.say, line) for line in lines]
        self.assert_same([outcome(desk.say, line) for line in lines], told)
        self.assert_same([outcome(desk.say, line) for line in reversed(lines)], told[::-1])

    def test_questions_are_not_undone(self):
        desk = Desk((1,))
        desk.say("lay ann 1999 75 0 0")
        for line in questions((1,), 1):
            outcome(desk.say, line)
        self.assert_answers(desk, [("undo", "ok"), ("count", "0")])
        self.refused(NoDeed, desk.say, "undo")


class RefusedByTheCellar(Asked):
    """Refused as a bottle or the cellar refuses it, with its class and fields; and nothing is changed."""

    def assert_refused(self, error, line, wanted=None):
        desk, cellar = desk_of_sorts(), Cellar(ROOMS, 2)
        for each in TOLD:
            plain_answer(cellar, each)
        self.refused_with(error, wanted or {}, desk.say, line)
        self.assert_alike(desk, cellar, ROOMS)
        while outcome(cellar.undo)[0] == "told":
            self.assert_same(desk.say("undo"), "ok")
            self.assert_alike(desk, cellar, ROOMS)
        self.refused(NoDeed, desk.say, "undo")

    def test_makers_that_are_none(self):
        for maker in ("Ann", "abcdefghi", "an-n", "-", "7", "1999", "an\tn", "\t", "\n", "ann\n", "\nann", "~",
                      "'ann'"):
            self.assert_refused(NoMaker, f"lay {maker} 1999 75 0 1")
            self.assert_refused(NoMaker, f"lay {maker} 1899 50 9 9")

    def test_years_and_sizes_that_are_none(self):
        for year in (0, 1, 1899, 2101, 10 ** 39):
            self.assert_refused(NoYear, f"lay ann {year} 75 0 1")
            self.assert_refused(NoYear, f"lay ann {year} 50 9 9")
        for size in (0, 36, 38, 74, 76, 149, 151, 10 ** 39):
            self.assert_refused(NoSize, f"lay ann 1999 {size} 0 1")
            self.assert_refused(NoSize, f"lay ann 1999 {size} 9 9")

    def test_places_that_are_none(self):
        for place in ("2 0", "1 1", "0 2", "0 9", "9 0", f"{10 ** 39} 0", f"0 {10 ** 39}"):
            self.assert_refused(NoPlace, f"lay ann 1999 75 {place}")
            self.assert_refused(NoPlace, f"move 0 {place}")
            self.assert_refused(NoPlace, f"shelf {place}")

    def test_full(self):
        for line in ("lay ann 1999 75 0 0", "move 2 0 0"):
            self.assert_refused(Full, line, {"room": 0, "shelf": 0})

    def test_numbers_that_are_none_and_gone_ones(self):
        for number in (4, 5, 39, 40, 10 ** 39):
            for line in ("move N 0 1", "drink N 1 -", "give N 1 -", "break N 1", "fate N", "twins N", "move N 9 9",
                         "drink N 1000 abcdefghi", "give N 1000 abcdefghi", "break N 1000"):
                self.assert_refused(NoNumber, line.replace("N", str(number)))
        for line in ("move 1 0 1", "drink 1 1 -", "give 1 1 -", "break 1 1", "twins 1", "move 1 9 9",
                     "drink 1 1000 abcdefghi", "give 1 1000 abcdefghi", "break 1 1000"):
            self.assert_refused(Gone, line, {"number": 1, "fate": ("drunk", 7, "zoe")})

    def test_months_and_somebodies_that_are_none(self):
        for month in (1000, 1001, 10 ** 39):
            for line in ("drink 0 M ann", "give 0 M ann", "drink 0 M abcdefghi", "give 0 M abcdefghi", "break 0 M"):
                self.assert_refused(NoMonth, line.replace("M", str(month)))
        for who in ("abcdefghi", "a" * 1900):
            self.assert_refused(NoWho, f"drink 0 999 {who}")
            self.assert_refused(NoWho, f"give 0 0 {who}")

    def test_nothing_left_to_undo(self):
        desk = Desk((1,))
        self.refused(NoDeed, desk.say, "undo")
        outcome(desk.say, "lay ann 1999 75 0 9")
        self.refused(NoDeed, desk.say, "undo")
        self.assert_same(desk.say("lay ann 1999 75 0 0"), "0")
        self.assert_same(desk.say("undo"), "ok")
        self.refused(NoDeed, desk.say, "undo")


class Made(Asked):
    def test_rooms_and_then_hold(self):
        no_rooms = anything_but(lambda thing: type(thing) is tuple and 1 <= len(thing) <= 4 and all(
            is_number(part, 1, 4) for part in thing)) + [(5,), (0,), (1, 5), (1,) * 5, [1], (True,), "1"]
        no_holds = anything_but(lambda thing: is_number(thing, 1, 9)) + [0, 10, "6"]
        for rooms in no_rooms:
            self.refused(NoRooms, Desk, rooms)
            self.refused(NoRooms, Desk, rooms, 0)
            self.refused(NoRooms, Desk, hold=None, rooms=rooms)
        for hold in no_holds:
            self.refused(NoHold, Desk, (1,), hold)
            self.refused(NoHold, Desk, hold=hold, rooms=(4, 4, 4, 4))

    def test_two_desks_told_by_turns(self):
        for seed in range(6):
            chance = random.Random(seed)
            pairs = [(Desk(ROOMS, 3), Cellar(ROOMS, 3)) for _ in range(2)]
            for _ in range(60):
                desk, cellar = chance.choice(pairs)
                line, _ = some_deed(chance, ROOMS, how_many_bottles(cellar))
                self.assert_same(outcome(desk.say, line), outcome(plain_answer, cellar, line))
                for desk, cellar in pairs:
                    self.assert_alike(desk, cellar, ROOMS)

    def test_two_desks_have_nothing_in_common(self):
        one, other = Desk((1,)), Desk((1,))
        self.assert_answers(one, [("lay ann 1999 75 0 0", "0"), ("lay ann 1999 75 0 0", "1")])
        self.assert_answers(other, [("count", "0"), ("lay bea 2000 37 0 0", "0"), ("twins 0", "none")])
        one.say("break 0 1")
        self.assert_answers(other, [("fate 0", "here"), ("undo", "ok")])
        self.refused(NoDeed, other.say, "undo")
        self.assert_answers(one, [("count", "1"), ("fate 0", "broken 1"), ("shelf 0 0", "1")])

    def test_the_plain_texts_that_it_is_held_against(self):
        self.assertEqual([listed([]), listed([3]), listed([3, 10])], ["none", "3", "3 10"])
        self.assertEqual(fate_text(("given", 0, "")), "given 0 -")
