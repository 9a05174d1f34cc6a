"""Points 2, 3 and 8: what a cellar tells."""

from dimcellar.bottles import Bottle
from dimcellar.cellars import Cellar
from dimcellar.errors import Gone, NoBottle, NoNumber
from tests.cellars_of_sorts import BOTTLES, GONE, LYING, ROOMS, TEXT, ann, bea, of_sorts
from tests.things import Looked, anything_but, fields, is_number, told_now

NO_NUMBERS = anything_but(lambda thing: is_number(thing, 0, BOTTLES - 1)) + [-1, -BOTTLES, BOTTLES]


class Told(Looked):
    def test_of_a_cellar_of_sorts(self):
        cellar = of_sorts()
        self.assert_same(len(cellar), 6)
        self.assert_same(cellar.counts(), ((3, 0), (1,), (0, 2)))
        self.assert_same([cellar.row(room, shelf) for room, shelf in ((0, 0), (0, 1), (1, 0), (2, 0), (2, 1))],
                         [[0, 2, 9], [], [3], [], [5, 7]])
        self.assert_same([cellar.place(number) for number in range(BOTTLES)],
                         [(0, 0), None, (0, 0), (1, 0), None, (2, 1), None, (2, 1), None, (0, 0)])
        self.assert_same([cellar.became(number) for number in range(BOTTLES)],
                         [GONE.get(number) for number in range(BOTTLES)])
        self.assert_same([cellar.twins(number) for number in LYING], [[3], [7], [0], [], [2], []])
        self.assert_same([cellar.set_of(number) for number in LYING], [(0, 3), (), (0, 3), (5, 7), (5, 7), ()])
        self.assertEqual(str(cellar), TEXT)
        self.assertEqual(repr(cellar), "Cellar((2, 1, 2), 3)")

    def test_bottles_of_the_gone_too(self):
        cellar = of_sorts()
        self.assert_same([fields(cellar.bottle(number)) for number in range(BOTTLES)], [
            ("ann", 1999, 75), ("ann", 1999, 75), ("bea", 2000, 75), ("ann", 1999, 75), ("bea", 2000, 37),
            ("cleo", 1950, 75), ("ann", 1999, 75), ("bea", 2000, 75), ("ann", 1999, 75), ("dan", 1990, 150)])

    def test_the_very_bottle(self):
        bottles = [ann(), ann(), bea()]
        cellar = Cellar((1,))
        for bottle in bottles:
            cellar.lay(bottle)
        cellar.drink(1, 1)
        for number, bottle in enumerate(bottles):
            self.assertIs(cellar.bottle(number), bottle)

    def test_of_an_empty_cellar(self):
        cellar = Cellar((1, 2))
        self.assert_same(len(cellar), 0)
        self.assert_same(cellar.counts(), ((0,), (0, 0)))
        self.assert_same(cellar.rooms_with(ann()), [])
        self.assertEqual(str(cellar), "0.0:\n1.0:\n1.1:")

    def test_rooms_with(self):
        cellar = of_sorts()
        self.assert_same(cellar.rooms_with(ann()), [0, 1])
        self.assert_same(cellar.rooms_with(bea()), [0, 2])
        self.assert_same(cellar.rooms_with(bea(37)), [])
        self.assert_same(cellar.rooms_with(bottle=Bottle("cleo", 1950)), [2])
        self.assert_same(cellar.rooms_with(Bottle("dan", 1990)), [])
        self.assert_same(cellar.rooms_with(Bottle("dan", 1990, 150)), [0])
        self.assert_same(cellar.rooms_with(Bottle("eve", 1990)), [])

    def test_rooms_with_several_in_one_room_and_in_all(self):
        cellar = Cellar((2, 1, 2, 1))
        for room, shelf in ((3, 0), (2, 1), (2, 0), (0, 1), (0, 0), (1, 0), (0, 0)):
            cellar.lay(ann(), room, shelf)
        self.assert_same(cellar.rooms_with(ann()), [0, 1, 2, 3])
        self.assert_same(cellar.rooms_with(cellar.bottle(0)), [0, 1, 2, 3])

    def test_twins_rise_wherever_they_lie(self):
        cellar = Cellar((2, 2))
        for room, shelf in ((1, 1), (0, 0), (1, 0), (0, 1)):
            cellar.lay(ann(), room, shelf)
        cellar.lay(ann(), 0, 0)
        cellar.lay(Bottle("ann", 1999, 37), 0, 0)
        cellar.lay(Bottle("ann", 1998), 0, 0)
        cellar.move(1, 0, 0)
        self.assert_same(cellar.twins(2), [0, 1, 3, 4])
        self.assert_same(cellar.twins(0), [1, 2, 3, 4])
        cellar.drink(3, 1)
        self.assert_same(cellar.twins(number=4), [0, 1, 2])
        self.assert_same(cellar.twins(5), [])

    def test_by_names(self):
        cellar = of_sorts()
        self.assert_same(fields(cellar.bottle(number=9)), ("dan", 1990, 150))
        self.assert_same(cellar.place(number=9), (0, 0))
        self.assert_same(cellar.became(number=8), ("broken", 9))
        self.assert_same(cellar.row(room=2, shelf=1), [5, 7])
        self.assert_same(cellar.twins(number=0), [3])
        self.assert_same(cellar.set_of(number=7), (5, 7))

    def test_numbers_of_two_figures(self):
        cellar = Cellar((2,), 9)
        for number in range(14):
            cellar.lay(ann(), 0, number % 2)
        self.assertEqual(str(cellar), "0.0: 0 2 4 6 8 10 12\n0.1: 1 3 5 7 9 11 13")

    def test_shown(self):
        for rooms, hold in (((1,), 1), ((4, 3), 9), ((1, 2, 3, 4), 6)):
            cellar = Cellar(rooms, hold)
            self.assertEqual(repr(cellar), f"Cellar({rooms!r}, {hold!r})")
            cellar.lay(ann())
            self.assertEqual(repr(cellar), f"Cellar({rooms!r}, {hold!r})")

    def test_text_of_rooms_with_four_shelves(self):
        self.assertEqual(str(Cellar((1, 4, 1, 2))), "0.0:\n1.0:\n1.1:\n1.2:\n1.3:\n2.0:\n3.0:\n3.1:")

    def test_the_counts_are_of_those_that_lie_there(self):
        cellar = of_sorts()
        for deed, wanted in (
                (lambda: cellar.drink(2, 1), ((2, 0), (1,), (0, 2))),
                (lambda: cellar.move(9, 0, 1), ((1, 1), (1,), (0, 2))),
                (lambda: cellar.drink_set(0, 1), ((0, 1), (0,), (0, 2))),
                (lambda: cellar.smash(5, 1), ((0, 1), (0,), (0, 1))),
                (lambda: cellar.lay(ann(), 2, 1), ((0, 1), (0,), (0, 2))),
                (cellar.undo, ((0, 1), (0,), (0, 1)))):
            deed()
            self.assert_same(cellar.counts(), wanted)
            self.assert_same(len(cellar), sum(sum(room) for room in wanted))


class ToldAgain(Looked):
    def test_twice(self):
        cellar = of_sorts()
        self.assertEqual(told_now(cellar, ROOMS), told_now(cellar, ROOMS))
        cellar.drink(2, 1)
        self.assertEqual(told_now(cellar, ROOMS), told_now(cellar, ROOMS))
        cellar.undo()
        self.assertEqual(told_now(cellar, ROOMS), told_now(of_sorts(), ROOMS))

    def test_with_the_told_lists_made_longer_between(self):
        cellar = of_sorts()
        for ask in (lambda: cellar.row(0, 0), lambda: cellar.row(0, 1), lambda: cellar.twins(0),
                    lambda: cellar.twins(5), lambda: cellar.rooms_with(ann()),
                    lambda: cellar.rooms_with(bea(37))):
            told = ask()
            wanted = list(told)
            told.append(7)
            told.insert(0, 99)
            again = ask()
            self.assert_same(again, wanted)
            self.assertIsNot(again, ask())
            again.clear()
            self.assert_same(ask(), wanted)
        self.assertEqual(told_now(cellar, ROOMS), told_now(of_sorts(), ROOMS))
        self.assertTrue(cellar == of_sorts())

    def test_told_lists_stay_behind_later_deeds(self):
        cellar = of_sorts()
        row, twins, rooms, counts, bound = (
            cellar.row(), cellar.twins(0), cellar.rooms_with(ann()), cellar.counts(), cellar.set_of(0))
        cellar.move(2, 2, 0)
        cellar.smash(3, 1)
        self.assert_same((row, twins, rooms, counts, bound),
                         ([0, 2, 9], [3], [0, 1], ((3, 0), (1,), (0, 2)), (0, 3)))


class Refused(Looked):
    def test_no_number(self):
        cellar = of_sorts()
        for ask in (cellar.bottle, cellar.place, cellar.became, cellar.twins, cellar.set_of):
            for thing in NO_NUMBERS:
                self.refused(NoNumber, ask, thing)
        empty = Cellar((1,))
        for ask in (empty.bottle, empty.place, empty.became, empty.twins, empty.set_of):
            for number in (0, -1, True, False, None):
                self.refused(NoNumber, ask, number)

    def test_of_the_gone(self):
        cellar = of_sorts()
        for number, fate in GONE.items():
            for ask in (cellar.twins, cellar.set_of):
                self.refused_with(Gone, {"number": number, "fate": fate}, ask, number)
            self.assertIsInstance(cellar.bottle(number), Bottle)
            self.assertIsNone(cellar.place(number))
            self.assert_same(cellar.became(number), fate)

    def test_no_bottle(self):
        cellar = of_sorts()
        for thing in anything_but(lambda thing: isinstance(thing, Bottle)) + [("ann", 1999, 75), "ann 1999"]:
            self.refused(NoBottle, cellar.rooms_with, thing)

    def test_refusals_change_nothing(self):
        self.assert_stays(of_sorts, ROOMS, [
            (NoNumber, lambda cellar: cellar.bottle(BOTTLES)), (NoNumber, lambda cellar: cellar.place(-1)),
            (NoNumber, lambda cellar: cellar.became(True)), (Gone, lambda cellar: cellar.twins(1)),
            (Gone, lambda cellar: cellar.set_of(4)), (NoBottle, lambda cellar: cellar.rooms_with(None))])
