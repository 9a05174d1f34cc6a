"""Point 7: bottles laid, moved, drunk, given and broken, and the refusals of these deeds."""

from dimcellar.bottles import Bottle
from dimcellar.cellars import Cellar
from dimcellar.errors import Full, Gone, Kept, NoBottle, NoMonth, NoNumber, NoPlace, NoWho, TooMany
from tests.cellars_of_sorts import BOTTLES, BOUND, FREE, GONE, LYING, ROOMS, TEXT, ann, bea, forty, of_sorts
from tests.things import Looked, anything_but, is_month, is_number, is_who

NO_BOTTLES = anything_but(lambda thing: isinstance(thing, Bottle))
NO_NUMBERS = anything_but(lambda thing: is_number(thing, 0, BOTTLES - 1)) + [-1, -BOTTLES, BOTTLES]
NO_MONTHS = anything_but(is_month) + [-1, 1000]
NO_WHOS = anything_but(is_who) + ["Ann", "an n", "ann ", " ann", "ann\n", "an1", "an-n"]


class Laid(Looked):
    def test_numbers_from_0_on(self):
        cellar = Cellar((1, 2), 2)
        self.assert_same(cellar.lay(ann()), 0)
        self.assert_same(cellar.lay(bea(), 1, 1), 1)
        self.assert_same(cellar.lay(ann(), room=1, shelf=1), 2)
        self.assert_same(cellar.lay(shelf=0, room=0, bottle=bea()), 3)
        self.assertEqual(str(cellar), "0.0: 0 3\n1.0:\n1.1: 1 2")

    def test_numbers_of_the_gone_are_not_given_anew(self):
        cellar = Cellar((1,))
        cellar.lay(ann())
        cellar.smash(0, 0)
        self.assert_same(cellar.lay(ann()), 1)
        self.assert_same(cellar.row(), [1])

    def test_the_very_bottle_is_kept(self):
        cellar, bottle = Cellar((1,)), ann()
        cellar.lay(bottle)
        cellar.lay(bottle)
        self.assertIs(cellar.bottle(0), bottle)
        self.assertIs(cellar.bottle(1), bottle)
        self.assert_same(cellar.row(), [0, 1])

    def test_what_is_no_bottle(self):
        refusals = [(NoBottle, lambda cellar, thing=thing: cellar.lay(thing)) for thing in NO_BOTTLES]
        self.assert_stays(of_sorts, ROOMS, refusals)

    def test_no_bottle_ahead_of_all_else(self):
        cellar = forty()
        for thing in NO_BOTTLES:
            self.refused(NoBottle, cellar.lay, thing, 9, 9)
            self.refused(NoBottle, cellar.lay, thing, None, thing)
            self.refused(NoBottle, cellar.lay, thing, 0, 0)
            self.refused(NoBottle, cellar.lay, thing, 0, 1)

    def test_full(self):
        cellar = of_sorts()
        self.refused_with(Full, {"room": 0, "shelf": 0}, cellar.lay, ann())
        cellar.lay(ann(), 2, 1)
        self.refused_with(Full, {"room": 2, "shelf": 1}, cellar.lay, ann(), 2, 1)
        self.assert_stays(of_sorts, ROOMS, [(Full, lambda cellar: cellar.lay(ann(), 0, 0))])

    def test_not_full_where_one_has_gone(self):
        cellar = of_sorts()
        cellar.drink(FREE, 1)
        self.assert_same(cellar.lay(ann()), BOTTLES)
        self.assert_same(cellar.row(), [0, 9, BOTTLES])

    def test_forty_and_one_more(self):
        cellar = Cellar((4, 4), 9)
        for number in range(40):
            self.assert_same(cellar.lay(ann(), number // 20, number // 5 % 4), number)
        self.assertEqual(len(cellar), 40)
        self.refused_with(TooMany, {"many": 41, "most": 40}, cellar.lay, ann(), 1, 3)
        self.assertEqual(len(cellar), 40)

    def test_forty_be_they_gone_or_not(self):
        cellar = forty(1)
        self.assertEqual(len(cellar), 2)
        cellar.drink(39, 3)
        self.refused_with(TooMany, {"many": 41, "most": 40}, cellar.lay, ann(), 0, 1)
        self.refused_with(TooMany, {"many": 41, "most": 40}, cellar.lay, ann(), 0, 1)
        self.assertEqual(len(cellar), 1)

    def test_full_and_no_place_ahead_of_too_many(self):
        cellar = forty()
        self.refused_with(Full, {"room": 0, "shelf": 0}, cellar.lay, ann(), 0, 0)
        self.refused(NoPlace, cellar.lay, ann(), 0, 2)
        self.refused(NoPlace, cellar.lay, ann(), 1, 0)
        self.refused(NoPlace, cellar.lay, ann(), True, 0)
        self.refused(TooMany, cellar.lay, ann(), 0, 1)

    def test_too_many_changes_nothing(self):
        self.assert_stays(forty, (2,), [
            (TooMany, lambda cellar: cellar.lay(ann(), 0, 1)), (Full, lambda cellar: cellar.lay(ann()))])


class Moved(Looked):
    def test_behind_all_others_there(self):
        cellar = of_sorts()
        self.assertIsNone(cellar.move(0, 2, 1))
        self.assertEqual(str(cellar), "0.0: 2 9\n0.1:\n1.0: 3\n2.0:\n2.1: 5 7 0")
        self.assertIsNone(cellar.move(number=7, room=0, shelf=0))
        self.assertEqual(str(cellar), "0.0: 2 9 7\n0.1:\n1.0: 3\n2.0:\n2.1: 5 0")
        cellar.move(5, 2, 0)
        self.assertEqual(str(cellar), "0.0: 2 9 7\n0.1:\n1.0: 3\n2.0: 5\n2.1: 0")
        self.assert_same(cellar.place(5), (2, 0))

    def test_on_its_own_shelf(self):
        cellar = of_sorts()
        cellar.move(5, 2, 1)
        self.assert_same(cellar.row(2, 1), [7, 5])
        cellar.move(5, 2, 1)
        self.assert_same(cellar.row(2, 1), [7, 5])
        cellar.move(3, 1, 0)
        self.assert_same(cellar.row(1, 0), [3])

    def test_on_its_own_full_shelf(self):
        cellar = of_sorts()
        for number, wanted in ((0, [2, 9, 0]), (9, [2, 0, 9]), (9, [2, 0, 9]), (2, [0, 9, 2])):
            cellar.move(number, 0, 0)
            self.assert_same(cellar.row(), wanted)
        alone = Cellar((1,), 1)
        alone.lay(ann())
        alone.move(0)
        self.assert_same(alone.row(), [0])

    def test_a_move_on_its_own_shelf_is_a_deed(self):
        cellar = of_sorts()
        cellar.move(9)
        cellar.undo()
        self.assertEqual(str(cellar), TEXT)
        self.assertEqual(len(cellar), 6)

    def test_full(self):
        cellar = of_sorts()
        for number in (3, 5, 7):
            self.refused_with(Full, {"room": 0, "shelf": 0}, cellar.move, number, 0, 0)
        cellar.move(3, 2, 1)
        self.refused_with(Full, {"room": 2, "shelf": 1}, cellar.move, 9, 2, 1)
        cellar.move(9, 0, 1)
        cellar.move(5, 0, 0)
        self.assertEqual(str(cellar), "0.0: 0 2 5\n0.1: 9\n1.0:\n2.0:\n2.1: 7 3")

    def test_no_number_ahead_of_all_else(self):
        cellar = of_sorts()
        for thing in NO_NUMBERS:
            self.refused(NoNumber, cellar.move, thing)
            self.refused(NoNumber, cellar.move, thing, 0, 1)
            self.refused(NoNumber, cellar.move, thing, 3, 0)
            self.refused(NoNumber, cellar.move, thing, None, None)

    def test_gone_ahead_of_place(self):
        cellar = of_sorts()
        for number, fate in GONE.items():
            for place in ((0, 1), (0, 0), (3, 0), (None, 0), (0, 2), (True, "a")):
                self.refused_with(Gone, {"number": number, "fate": fate}, cellar.move, number, *place)

    def test_refused_moves_change_nothing(self):
        self.assert_stays(of_sorts, ROOMS, [
            (NoNumber, lambda cellar: cellar.move(BOTTLES, 0, 1)), (Gone, lambda cellar: cellar.move(1, 0, 1)),
            (NoPlace, lambda cellar: cellar.move(0, 1, 1)), (Full, lambda cellar: cellar.move(3, 0, 0))])


class Left(Looked):
    """Drunk, given and broken: what the three have alike."""

    def test_drunk(self):
        cellar = of_sorts()
        self.assertIsNone(cellar.drink(2, 0))
        self.assert_same(cellar.became(2), ("drunk", 0, ""))
        self.assertIsNone(cellar.drink(9, 999, "abcdefgh"))
        self.assert_same(cellar.became(9), ("drunk", 999, "abcdefgh"))
        self.assertIsNone(cellar.place(2))
        self.assert_same(cellar.row(), [0])
        self.assertEqual(len(cellar), 4)

    def test_given(self):
        cellar = of_sorts()
        self.assertIsNone(cellar.give(2, 999))
        self.assert_same(cellar.became(2), ("given", 999, ""))
        self.assertIsNone(cellar.give(9, 0, "z"))
        self.assert_same(cellar.became(9), ("given", 0, "z"))
        self.assertIsNone(cellar.place(9))
        self.assert_same(cellar.row(), [0])
        self.assertEqual(len(cellar), 4)

    def test_broken(self):
        cellar = of_sorts()
        self.assertIsNone(cellar.smash(2, 999))
        self.assert_same(cellar.became(2), ("broken", 999))
        self.assertIsNone(cellar.smash(9, 0))
        self.assert_same(cellar.became(9), ("broken", 0))
        self.assertIsNone(cellar.place(2))
        self.assert_same(cellar.row(), [0])
        self.assertEqual(len(cellar), 4)

    def test_by_names(self):
        cellar = of_sorts()
        cellar.drink(who="ann", month=3, number=2)
        cellar.give(who="bea", month=4, number=9)
        cellar.smash(month=5, number=0)
        self.assert_same([cellar.became(number) for number in (2, 9, 0)],
                         [("drunk", 3, "ann"), ("given", 4, "bea"), ("broken", 5)])

    def test_what_stays_on_the_shelf_stays_in_its_order(self):
        for leave in (lambda cellar: cellar.drink(2, 1), lambda cellar: cellar.give(2, 1),
                      lambda cellar: cellar.smash(2, 1)):
            cellar = of_sorts()
            leave(cellar)
            self.assertEqual(str(cellar), TEXT.replace("0 2 9", "0 9"))
            self.assert_same(cellar.counts(), ((2, 0), (1,), (0, 2)))

    def calls(self, cellar):
        """Each deed, of a number and a month."""
        return [
            cellar.drink, cellar.give, cellar.smash,
            lambda number, month: cellar.drink(number, month, "ann"),
            lambda number, month: cellar.give(number, month, "ann"),
            lambda number, month: cellar.drink(number, month, None),
            lambda number, month: cellar.give(number, month, "Ann")]

    def test_no_number(self):
        cellar = of_sorts()
        for thing in NO_NUMBERS:
            for call in self.calls(cellar):
                for month in (0, 1000, None, True):
                    self.refused(NoNumber, call, thing, month)

    def test_gone(self):
        cellar = of_sorts()
        for number, fate in GONE.items():
            for call in self.calls(cellar):
                for month in (0, 1000, None, True):
                    self.refused_with(Gone, {"number": number, "fate": fate}, call, number, month)

    def test_no_month(self):
        cellar = of_sorts()
        for thing in NO_MONTHS:
            for number in (FREE, BOUND):
                for call in self.calls(cellar):
                    self.refused(NoMonth, call, number, thing)

    def test_no_who(self):
        cellar = of_sorts()
        for thing in NO_WHOS:
            for number in (FREE, BOUND):
                self.refused(NoWho, cellar.drink, number, 0, thing)
                self.refused(NoWho, cellar.give, number, 999, thing)

    def test_every_sign_of_who(self):
        cellar = of_sorts()
        signs = [chr(code) for code in range(32, 127) if chr(code) != "%"] + ["\t", "\n"]
        for sign in signs:
            for many in (1, 2, 8):
                for at in range(many):
                    who = "m" * at + sign + "m" * (many - at - 1)
                    for deed, told in ((cellar.drink, "drunk"), (cellar.give, "given")):
                        if sign in "abcdefghijklmnopqrstuvwxyz":
                            deed(FREE, 1, who)
                            self.assert_same(cellar.became(FREE), (told, 1, who))
                            cellar.undo()
                        else:
                            self.refused(NoWho, deed, FREE, 1, who)

    def test_month_ahead_of_who(self):
        cellar = of_sorts()
        for month in (-1, 1000, None, True, "1"):
            for who in (None, "Ann", "abcdefghi", 0, True):
                for number in (FREE, BOUND):
                    self.refused(NoMonth, cellar.drink, number, month, who)
                    self.refused(NoMonth, cellar.give, number, month, who)

    def test_a_bound_bottle_is_kept_behind_all_else(self):
        cellar = of_sorts()
        for deed in (cellar.drink, cellar.give):
            self.refused_with(Kept, {"number": 3, "others": (0,)}, deed, 3, 0)
            self.refused_with(Kept, {"number": 0, "others": (3,)}, deed, 0, 0, "ann")
            self.refused_with(Kept, {"number": 7, "others": (5,)}, deed, 7, 999, "")

    def test_refused_deeds_change_nothing(self):
        refusals = []
        for number, error in ((BOTTLES, NoNumber), (4, Gone), (BOUND, Kept)):
            refusals.append((error, lambda cellar, number=number: cellar.drink(number, 1)))
            refusals.append((error, lambda cellar, number=number: cellar.give(number, 1, "ann")))
        refusals += [
            (NoMonth, lambda cellar: cellar.drink(FREE, 1000)), (NoMonth, lambda cellar: cellar.give(FREE, -1)),
            (NoMonth, lambda cellar: cellar.smash(BOUND, 1000)), (NoWho, lambda cellar: cellar.drink(FREE, 1, "A")),
            (NoWho, lambda cellar: cellar.give(FREE, 1, 0)), (NoNumber, lambda cellar: cellar.smash(-1, 1)),
            (Gone, lambda cellar: cellar.smash(8, 1))]
        self.assert_stays(of_sorts, ROOMS, refusals)

    def test_the_cellar_of_sorts(self):
        cellar = of_sorts()
        self.assertEqual(str(cellar), TEXT)
        for number in range(BOTTLES):
            self.assertEqual(cellar.became(number), GONE.get(number))
            self.assertEqual(cellar.place(number) is not None, number in LYING)
