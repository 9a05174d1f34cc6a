"""Points 2, 3 and 10: what a plan tells, what it holds for a plan, its text, and equal plans."""

import itertools
import random

from dimcellar.errors import NoMonth, NoNumber
from dimcellar.plans import Plan
from tests.plain_plan import is_right, months_planned, some_spans
from tests.things import Looked, anything, anything_but, is_month

# Planned: 1 and 4 for the month 0, 30 and 39 for 1, 0 for 4.
SPANS = {30: (0, 8), 4: (0, 3), 1: (0, 3), 39: (1, 5), 0: (4, 4)}
MONTHS = {0: 4, 1: 0, 4: 0, 30: 1, 39: 1}


def of_sorts():
    return Plan(SPANS, 2)


class Told(Looked):
    def test_len(self):
        self.assert_same(len(of_sorts()), 5)
        self.assert_same(len(Plan({})), 0)
        self.assert_same(len(Plan({0: (3, 3)})), 1)
        self.assert_same(len(Plan({number: (0, 999) for number in range(28, 40)})), 12)

    def test_months(self):
        plan = of_sorts()
        for number, month in MONTHS.items():
            self.assert_same(plan.month(number), month)
            self.assert_same(plan.month(number=number), month)

    def test_numbers_that_are_none_of_them(self):
        plan = of_sorts()
        for number in range(-3, 50):
            if number not in MONTHS:
                self.refused(NoNumber, plan.month, number)
        for thing in anything():
            if type(thing) is not int or thing not in MONTHS:
                self.refused(NoNumber, plan.month, thing)
        for thing in anything():
            self.refused(NoNumber, Plan({}).month, thing)

    def test_a_truth_is_no_number(self):
        plan = Plan({0: (0, 1), 1: (0, 1)})
        self.refused(NoNumber, plan.month, True)
        self.refused(NoNumber, plan.month, False)

    def test_those_planned_for_a_month(self):
        plan = of_sorts()
        for month in range(1000):
            wanted = {0: [1, 4], 1: [30, 39], 4: [0]}.get(month, [])
            self.assert_same(plan.drunk_in(month), wanted)
        self.assert_same(plan.drunk_in(month=1), [30, 39])

    def test_they_are_rising(self):
        for order in itertools.permutations((9, 10, 2, 39)):
            plan = Plan({number: (5, 5 + place) for place, number in enumerate(order)}, 4)
            self.assert_same(plan.drunk_in(5), [2, 9, 10, 39])

    def test_months_that_are_none(self):
        for plan in (of_sorts(), Plan({})):
            for month in (-1, 1000, 1001, 10 ** 39, -(10 ** 39)):
                self.refused(NoMonth, plan.drunk_in, month)
            for thing in anything_but(is_month):
                self.refused(NoMonth, plan.drunk_in, thing)

    def test_told_lists_are_new(self):
        plan = of_sorts()
        for month, wanted in ((0, [1, 4]), (7, [])):
            told = plan.drunk_in(month)
            told.append(7)
            told.reverse()
            self.assert_same(plan.drunk_in(month), wanted)
            self.assertIsNot(plan.drunk_in(month), plan.drunk_in(month))
        self.assertEqual(len(plan), 5)
        self.assert_same(str(plan), "0: 4\n1: 0\n4: 0\n30: 1\n39: 1")

    def test_the_same_question_again(self):
        plan = of_sorts()
        for _ in range(2):
            self.assertEqual([plan.month(number) for number in MONTHS], list(MONTHS.values()))
            self.refused(NoNumber, plan.month, 2)
            self.refused(NoMonth, plan.drunk_in, 1000)
            self.assertTrue(plan.holds(dict(MONTHS)))
            self.assertFalse(plan.holds({}))

    def test_the_text(self):
        self.assert_same(str(of_sorts()), "0: 4\n1: 0\n4: 0\n30: 1\n39: 1")
        self.assert_same(str(Plan({})), "")
        self.assert_same(str(Plan({39: (999, 999)})), "39: 999")
        self.assert_same(str(Plan({10: (0, 0), 9: (1, 1), 2: (10, 10)})), "2: 10\n9: 1\n10: 0")

    def test_the_text_of_rows_of_spans(self):
        chance = random.Random(31)
        for _ in range(60):
            spans = some_spans(chance, chance.randrange(13), range(100, 160), 60)
            months = months_planned(spans, 4, range(100, 160))
            if len(months) == len(spans):
                plan = Plan(spans, 4)
                rows = [str(number) + ": " + str(months[number]) for number in sorted(months)]
                self.assert_same(str(plan), "\n".join(rows))
                for month in range(100, 160):
                    self.assert_same(plan.drunk_in(month), sorted(n for n in months if months[n] == month))


class Holds(Looked):
    def assert_holds(self, wanted, plan, thing):
        self.assertIs(plan.holds(thing), wanted, repr(thing)[:200])

    def test_the_told_plan(self):
        plan = of_sorts()
        self.assert_holds(True, plan, {number: plan.month(number) for number in SPANS})
        self.assert_holds(True, Plan({}), {})
        self.assertIs(plan.holds(thing=dict(MONTHS)), True)

    def test_in_each_order(self):
        plan = of_sorts()
        for order in itertools.permutations(MONTHS):
            self.assert_holds(True, plan, {number: MONTHS[number] for number in order})

    def test_all_dicts_of_some_months(self):
        """Of each month for each number just those are held that are right plans."""
        for spans, rate in (
                ({3: (1, 3), 5: (2, 2), 4: (2, 4)}, 1), ({3: (1, 3), 5: (2, 2), 4: (2, 4)}, 2),
                ({0: (0, 2), 1: (0, 2), 2: (0, 2)}, 1), ({0: (1, 2), 1: (1, 2), 2: (1, 2), 3: (1, 3)}, 2)):
            plan = Plan(spans, rate)
            seen = []
            for months in itertools.product(range(6), repeat=len(spans)):
                thing = dict(zip(spans, months))
                self.assert_holds(is_right(spans, rate, thing), plan, thing)
                seen.append(is_right(spans, rate, thing))
            self.assertGreater(seen.count(True), 1)

    def test_a_number_more_or_less(self):
        plan = of_sorts()
        for number in MONTHS:
            self.assert_holds(False, plan, {other: MONTHS[other] for other in MONTHS if other != number})
        for number in (2, 3, 38, 40, -1, 1000, None, "0", (0,)):
            self.assert_holds(False, plan, {**MONTHS, number: 4})
            self.assert_holds(False, plan, {number: 4, **MONTHS})
        self.assert_holds(False, plan, {})
        self.assert_holds(False, Plan({}), {0: 0})
        self.assert_holds(False, Plan({}), {None: None})

    def test_another_number_in_the_place_of_one(self):
        plan = of_sorts()
        for number in MONTHS:
            for other in (2, 3, 38, 40, -1, None, "0", (number,), str(number)):
                thing = {other if key == number else key: month for key, month in MONTHS.items()}
                self.assert_holds(False, plan, thing)

    def test_a_truth_is_no_number(self):
        plan = Plan({0: (5, 9), 1: (5, 9), 2: (5, 9)})
        self.assert_holds(True, plan, {0: 5, 1: 6, 2: 7})
        self.assert_holds(False, plan, {False: 5, 1: 6, 2: 7})
        self.assert_holds(False, plan, {0: 5, True: 6, 2: 7})
        self.assert_holds(False, plan, {2: 7, True: 6, False: 5})
        self.assert_holds(False, Plan({0: (5, 9)}), {False: 5})
        self.assert_holds(False, Plan({1: (5, 9)}), {True: 5})

    def test_a_truth_is_no_month(self):
        plan = Plan({7: (0, 1), 8: (0, 1)})
        for thing in ({7: 0, 8: 1}, {7: 1, 8: 0}):
            self.assert_holds(True, plan, thing)
        for thing in ({7: False, 8: 1}, {7: 0, 8: True}, {7: True, 8: 0}, {7: 1, 8: False}, {7: True, 8: False}):
            self.assert_holds(False, plan, thing)

    def test_months_at_the_ends_of_a_span_and_beyond(self):
        plan = Plan({7: (3, 6), 8: (0, 0), 9: (999, 999)})
        for month in range(-2, 12):
            self.assert_holds(3 <= month <= 6, plan, {7: month, 8: 0, 9: 999})
            self.assert_holds(month == 0, plan, {7: 4, 8: month, 9: 999})
            self.assert_holds(month == 1, plan, {7: 4, 8: 0, 9: 998 + month})

    def test_a_month_more_often_than_the_rate(self):
        for rate in range(1, 5):
            plan = Plan({number: (20, 60) for number in range(7)}, rate)
            for many in range(8):
                thing = {number: 30 if number < many else 40 + number for number in range(7)}
                self.assert_holds(many <= rate, plan, thing)
                thing = {number: 50 + number if number < 7 - many else 50 for number in range(7)}
                self.assert_holds(many + (many < 7) <= rate, plan, thing)

    def test_two_months_as_often_as_the_rate(self):
        plan = Plan({number: (20, 60) for number in range(6)}, 2)
        self.assert_holds(True, plan, {0: 20, 1: 60, 2: 60, 3: 30, 4: 20, 5: 30})
        self.assert_holds(False, plan, {0: 20, 1: 60, 2: 60, 3: 20, 4: 20, 5: 30})
        self.assert_holds(False, plan, {0: 20, 1: 60, 2: 60, 3: 30, 4: 20, 5: 60})

    def test_months_of_other_kinds(self):
        plan = Plan({7: (500, 600), 8: (0, 0)})
        for thing in anything() + ["500", [500], (500,), {500: 500}, (500, 600)]:
            self.assert_holds(False, plan, {7: thing, 8: 0})
            self.assert_holds(False, plan, {8: 0, 7: thing})

    def test_things_of_any_kind(self):
        for thing in anything() + [list(MONTHS), list(MONTHS.items()), tuple(MONTHS.items()), str(MONTHS)]:
            self.assert_holds(False, of_sorts(), thing)
            self.assert_holds(type(thing) is dict and thing == {}, Plan({}), thing)
        for thing in ([], (), "", 0, None, False):
            self.assert_holds(False, Plan({}), thing)

    def test_what_is_handed_in_stays(self):
        plan = of_sorts()
        for thing in (dict(MONTHS), {**MONTHS, 2: 5}, {**MONTHS, 1: 9}, {}):
            wanted = dict(thing)
            plan.holds(thing)
            self.assert_same(thing, wanted)
        self.assert_same(str(plan), "0: 4\n1: 0\n4: 0\n30: 1\n39: 1")


class Equal(Looked):
    def assert_equal(self, wanted, one, other):
        self.assertIs(one == other, wanted)
        self.assertIs(other == one, wanted)
        self.assertIs(one != other, not wanted)
        self.assertIs(other != one, not wanted)

    def test_made_alike(self):
        self.assert_equal(True, of_sorts(), of_sorts())
        self.assert_equal(True, Plan({}), Plan({}))
        plan = of_sorts()
        self.assert_equal(True, plan, plan)

    def test_by_the_months_alone(self):
        """Neither spans nor rates nor their order count."""
        plan = Plan({3: (0, 0), 4: (1, 1)})
        self.assert_equal(True, plan, Plan({3: (0, 9), 4: (1, 20)}))
        self.assert_equal(True, plan, Plan({4: (1, 1), 3: (0, 0)}))
        self.assert_equal(True, plan, Plan({4: (0, 9), 3: (0, 8)}))
        self.assert_equal(True, plan, Plan({3: (0, 0), 4: (1, 1)}, 4))
        self.assert_equal(True, Plan({}), Plan({}, 3))
        self.assert_equal(True, of_sorts(), Plan({number: (month, month) for number, month in MONTHS.items()}, 3))

    def test_one_thing_otherwise(self):
        plan = Plan({3: (0, 0), 4: (1, 1)})
        for spans in ({3: (0, 0), 4: (2, 2)}, {3: (1, 1), 4: (0, 0)}, {3: (0, 0), 5: (1, 1)}, {3: (0, 0)}, {4: (1, 1)},
                      {3: (0, 0), 4: (1, 1), 5: (2, 2)}, {}, {0: (3, 3), 1: (4, 4)}):
            self.assert_equal(False, plan, Plan(spans))
        self.assert_equal(False, Plan({3: (0, 1), 4: (0, 1)}), Plan({3: (0, 1), 4: (0, 1)}, 2))

    def test_to_things_of_other_kinds(self):
        for plan in (Plan({}), of_sorts()):
            for thing in anything() + [MONTHS, SPANS, str(plan)]:
                self.assert_equal(False, plan, thing)

    def test_all_small_plans(self):
        plans = [
            Plan(dict(zip((3, 4), spans)), rate)
            for spans in itertools.product([(0, 0), (0, 1), (1, 1), (1, 2)], repeat=2)
            for rate in (1, 2) if spans[0] != spans[1] or spans[0][0] < spans[0][1] or rate == 2]
        for one, other in itertools.product(plans, repeat=2):
            self.assert_equal(str(one) == str(other), one, other)
