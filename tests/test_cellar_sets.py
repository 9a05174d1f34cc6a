"""Point 7: sets bound, drunk, loosened and broken down, and the refusals of these deeds."""

from dimcellar.cellars import Cellar
from dimcellar.errors import Gone, Kept, NoMonth, NoNumber, NoSet, NoWho
from tests.cellars_of_sorts import BOTTLES, FREE, GONE, LYING, ROOMS, TEXT, ann, of_sorts
from tests.things import Looked, anything_but, is_month, is_number, is_who

NO_NUMBERS = anything_but(lambda thing: is_number(thing, 0, BOTTLES - 1)) + [-1, -BOTTLES, BOTTLES]


def is_set(thing):
    return (type(thing) is tuple and 2 <= len(thing) <= 6 and all(type(part) is int for part in thing)
            and sorted(set(thing)) == list(thing))


def row_of(many):
    """A cellar with so many bottles, all free."""
    cellar = Cellar((1,), 9)
    for _ in range(many):
        cellar.lay(ann())
    return cellar


def sets_of(cellar):
    return [cellar.set_of(number) if cellar.became(number) is None else None for number in range(BOTTLES)]


class Bound(Looked):
    def test_two_to_six(self):
        for numbers in ((0, 1), (1, 8), (0, 4, 8), (2, 3, 5, 7), (0, 1, 2, 3, 4), (0, 1, 2, 4, 6, 8)):
            cellar = row_of(9)
            self.assertIsNone(cellar.bind(numbers))
            for number in range(9):
                self.assert_same(cellar.set_of(number), numbers if number in numbers else ())

    def test_several_sets_side_by_side(self):
        cellar = row_of(8)
        cellar.bind((1, 3))
        cellar.bind(numbers=(0, 2, 4))
        cellar.bind((5, 7))
        self.assert_same([cellar.set_of(number) for number in range(8)],
                         [(0, 2, 4), (1, 3), (0, 2, 4), (1, 3), (0, 2, 4), (5, 7), (), (5, 7)])

    def test_bottles_of_unlike_places(self):
        cellar = of_sorts()
        cellar.bind((2, 9))
        self.assert_same(sets_of(cellar), [(0, 3), None, (2, 9), (0, 3), None, (5, 7), None, (5, 7), None, (2, 9)])
        self.assertEqual(str(cellar), TEXT)

    def test_no_set(self):
        cellar = row_of(9)
        for thing in anything_but(is_set):
            self.refused(NoSet, cellar.bind, thing)
        for thing in ((), (0,), (0, 1, 2, 3, 4, 5, 6), (1, 0), (1, 1), (0, 1, 1), (0, 2, 1), (2, 0, 1), (0, 0, 1),
                      [0, 1], {0: 1}, "01", (0, 1, 2, 3, 5, 4), (0, True), (True, 2), (False, 1), (0, "1"),
                      ("0", "1"), (0, None), (0, (1,)), ([0], 1), (0, 1, 2, True)):
            self.refused(NoSet, cellar.bind, thing)
        self.assertEqual([cellar.set_of(number) for number in range(9)], [()] * 9)

    def test_a_part_of_another_kind_at_any_place(self):
        cellar = row_of(9)
        for thing in anything_but(lambda thing: type(thing) is int):
            for at in range(3):
                parts = [2, 5]
                parts.insert(at, thing)
                self.refused(NoSet, cellar.bind, tuple(parts))

    def test_no_set_ahead_of_all_else(self):
        cellar = of_sorts()
        for thing in ((BOTTLES,), (BOTTLES, -1), (4, 1), (3, 0), (0, 0), (1, 1), (0,), (0, 1, 2, 3, 4, 5, 6),
                      (-1, True), (1, 4, 99, None)):
            self.refused(NoSet, cellar.bind, thing)

    def test_no_number(self):
        cellar = of_sorts()
        for numbers in ((-1, 2), (2, BOTTLES), (2, 9, BOTTLES), (-5, 2, 9), (2, 10 ** 39), (-10, -1)):
            self.refused(NoNumber, cellar.bind, numbers)

    def test_gone(self):
        cellar = of_sorts()
        for numbers, number in (((1, 2), 1), ((2, 4), 4), ((2, 8, 9), 8), ((2, 6, 8), 6), ((1, 4), 1)):
            self.refused_with(Gone, {"number": number, "fate": GONE[number]}, cellar.bind, numbers)

    def test_kept(self):
        cellar = of_sorts()
        for numbers, number, others in (
                ((0, 2), 0, (3,)), ((2, 3), 3, (0,)), ((0, 3), 0, (3,)), ((3, 5), 3, (0,)),
                ((2, 5, 7), 5, (7,)), ((2, 7, 9), 7, (5,))):
            self.refused_with(Kept, {"number": number, "others": others}, cellar.bind, numbers)

    def test_others_rise_without_the_bottle_itself(self):
        cellar = row_of(9)
        cellar.bind((1, 3, 4, 8))
        self.refused_with(Kept, {"number": 3, "others": (1, 4, 8)}, cellar.bind, (2, 3))
        self.refused_with(Kept, {"number": 1, "others": (3, 4, 8)}, cellar.bind, (0, 1, 3))
        self.refused_with(Kept, {"number": 8, "others": (1, 3, 4)}, cellar.drink, 8, 1)

    def test_the_first_of_no_number_and_gone_in_the_order_of_the_tuple(self):
        cellar = of_sorts()
        self.refused_with(Gone, {"number": 4, "fate": GONE[4]}, cellar.bind, (4, BOTTLES))
        self.refused_with(Gone, {"number": 8, "fate": GONE[8]}, cellar.bind, (2, 8, BOTTLES, 99))
        self.refused(NoNumber, cellar.bind, (-1, 4))
        self.refused(NoNumber, cellar.bind, (-1, 1, 2))

    def test_no_number_and_gone_ahead_of_kept(self):
        cellar = of_sorts()
        self.refused(NoNumber, cellar.bind, (0, BOTTLES))
        self.refused(NoNumber, cellar.bind, (0, 3, 5, BOTTLES))
        self.refused_with(Gone, {"number": 8, "fate": GONE[8]}, cellar.bind, (0, 3, 8))
        self.refused_with(Gone, {"number": 1, "fate": GONE[1]}, cellar.bind, (0, 1))
        self.refused_with(Gone, {"number": 6, "fate": GONE[6]}, cellar.bind, (5, 6, 7))

    def test_refused_bindings_change_nothing(self):
        self.assert_stays(of_sorts, ROOMS, [
            (NoSet, lambda cellar: cellar.bind((9, 2))), (NoNumber, lambda cellar: cellar.bind((2, BOTTLES))),
            (Gone, lambda cellar: cellar.bind((2, 4))), (Kept, lambda cellar: cellar.bind((2, 3)))])


class BoundBottles(Looked):
    def test_may_be_moved(self):
        cellar = of_sorts()
        cellar.move(3, 2, 1)
        cellar.move(5, 2, 1)
        self.assertEqual(str(cellar), "0.0: 0 2 9\n0.1:\n1.0:\n2.0:\n2.1: 7 3 5")
        self.assert_same(cellar.set_of(3), (0, 3))
        self.assert_same(cellar.set_of(0), (0, 3))
        self.assert_same(cellar.set_of(5), (5, 7))

    def test_broken_down_to_one_alone(self):
        cellar = row_of(4)
        cellar.bind((0, 1, 3))
        cellar.smash(1, 4)
        self.assert_same([cellar.set_of(number) for number in (0, 2, 3)], [(0, 3), (), (0, 3)])
        self.refused_with(Gone, {"number": 1, "fate": ("broken", 4)}, cellar.set_of, 1)
        self.refused_with(Kept, {"number": 3, "others": (0,)}, cellar.drink, 3, 5)
        cellar.smash(0, 5)
        self.assert_same(cellar.set_of(3), (3,))
        self.refused_with(Kept, {"number": 3, "others": ()}, cellar.drink, 3, 5)
        self.refused_with(Kept, {"number": 3, "others": ()}, cellar.give, 3, 5)
        self.refused_with(Kept, {"number": 3, "others": ()}, cellar.bind, (2, 3))
        cellar.move(3)
        self.assert_same(cellar.set_of(3), (3,))

    def test_one_alone_is_drunk_loosened_or_broken(self):
        def alone():
            cellar = row_of(2)
            cellar.bind((0, 1))
            cellar.smash(0, 4)
            return cellar
        cellar = alone()
        cellar.drink_set(1, 7)
        self.assert_same(cellar.became(1), ("drunk", 7, ""))
        cellar = alone()
        cellar.loosen(1)
        self.assert_same(cellar.set_of(1), ())
        cellar.drink(1, 8)
        self.assert_same(cellar.became(1), ("drunk", 8, ""))
        cellar = alone()
        cellar.smash(1, 9)
        self.assert_same(cellar.became(1), ("broken", 9))
        self.assertEqual(len(cellar), 0)

    def test_breaking_a_free_one_leaves_the_sets(self):
        cellar = of_sorts()
        sets = sets_of(cellar)
        cellar.smash(2, 1)
        sets[2] = None
        self.assert_same(sets_of(cellar), sets)


class Drunk(Looked):
    def test_as_a_whole(self):
        for number in (1, 4, 7):
            cellar = row_of(9)
            cellar.bind((0, 3))
            cellar.bind((1, 4, 7))
            self.assertIsNone(cellar.drink_set(number, 12, "zoe"))
            for gone in (1, 4, 7):
                self.assert_same(cellar.became(gone), ("drunk", 12, "zoe"))
                self.assertIsNone(cellar.place(gone))
                self.refused_with(Gone, {"number": gone, "fate": ("drunk", 12, "zoe")}, cellar.set_of, gone)
            self.assert_same(cellar.row(), [0, 2, 3, 5, 6, 8])
            self.assert_same(cellar.set_of(3), (0, 3))
            self.assertEqual(len(cellar), 6)

    def test_by_names_and_without_who(self):
        cellar = of_sorts()
        cellar.drink_set(month=999, number=3)
        self.assert_same((cellar.became(0), cellar.became(3)), (("drunk", 999, ""), ("drunk", 999, "")))
        cellar.drink_set(who="abcdefgh", number=7, month=0)
        self.assert_same((cellar.became(5), cellar.became(7)),
                         (("drunk", 0, "abcdefgh"), ("drunk", 0, "abcdefgh")))
        self.assertEqual(str(cellar), "0.0: 2 9\n0.1:\n1.0:\n2.0:\n2.1:")

    def test_is_one_deed(self):
        cellar = of_sorts()
        cellar.drink_set(3, 1)
        cellar.undo()
        self.assertEqual(str(cellar), TEXT)
        self.assertTrue(cellar == of_sorts())

    def test_no_number_and_gone_ahead_of_all_else(self):
        cellar = of_sorts()
        for month, who in ((1, ""), (1000, ""), (1, "A"), (None, None)):
            for thing in NO_NUMBERS:
                self.refused(NoNumber, cellar.drink_set, thing, month, who)
            for number, fate in GONE.items():
                self.refused_with(Gone, {"number": number, "fate": fate}, cellar.drink_set, number, month, who)

    def test_no_set_ahead_of_month_and_who(self):
        cellar = of_sorts()
        for month, who in ((1, ""), (1000, ""), (1, "A"), (None, None), (True, "ann")):
            for number in (2, 9):
                self.refused(NoSet, cellar.drink_set, number, month, who)

    def test_no_month_and_no_who(self):
        cellar = of_sorts()
        for thing in anything_but(is_month) + [-1, 1000]:
            self.refused(NoMonth, cellar.drink_set, 3, thing)
            self.refused(NoMonth, cellar.drink_set, 3, thing, "A")
            self.refused(NoMonth, cellar.drink_set, 3, thing, None)
        for thing in anything_but(is_who) + ["Ann", "ann ", "an1"]:
            self.refused(NoWho, cellar.drink_set, 3, 1, thing)

    def test_refusals_change_nothing(self):
        self.assert_stays(of_sorts, ROOMS, [
            (NoNumber, lambda cellar: cellar.drink_set(BOTTLES, 1)), (Gone, lambda cellar: cellar.drink_set(6, 1)),
            (NoSet, lambda cellar: cellar.drink_set(FREE, 1)), (NoMonth, lambda cellar: cellar.drink_set(0, 1000)),
            (NoWho, lambda cellar: cellar.drink_set(5, 1, "A"))])


class Loosened(Looked):
    def test_its_bottles_are_bound_no_more(self):
        for number in (1, 4, 7):
            cellar = row_of(9)
            cellar.bind((0, 3))
            cellar.bind((1, 4, 7))
            self.assertIsNone(cellar.loosen(number))
            self.assert_same([cellar.set_of(each) for each in range(9)],
                             [(0, 3), (), (), (0, 3), (), (), (), (), ()])
            self.assert_same(cellar.row(), list(range(9)))

    def test_may_be_drunk_given_and_bound_then(self):
        cellar = of_sorts()
        cellar.loosen(number=0)
        cellar.drink(3, 4)
        cellar.bind((0, 9))
        self.assert_same(sets_of(cellar), [(0, 9), None, (), None, None, (5, 7), None, (5, 7), None, (0, 9)])
        cellar.loosen(7)
        cellar.give(5, 1)
        self.assert_same(cellar.set_of(7), ())

    def test_refusals(self):
        cellar = of_sorts()
        for thing in NO_NUMBERS:
            self.refused(NoNumber, cellar.loosen, thing)
        for number, fate in GONE.items():
            self.refused_with(Gone, {"number": number, "fate": fate}, cellar.loosen, number)
        for number in (2, 9):
            self.refused(NoSet, cellar.loosen, number)
        cellar.loosen(3)
        self.refused(NoSet, cellar.loosen, 3)
        self.refused(NoSet, cellar.loosen, 0)

    def test_refusals_change_nothing(self):
        self.assert_stays(of_sorts, ROOMS, [
            (NoNumber, lambda cellar: cellar.loosen(-1)), (Gone, lambda cellar: cellar.loosen(6)),
            (NoSet, lambda cellar: cellar.loosen(FREE))])

    def test_bottles_in_sets_still_lie_there(self):
        cellar = of_sorts()
        self.assertEqual([number for number in range(BOTTLES) if cellar.place(number)], list(LYING))
