"""Points 2, 3 and 10: a span put anew or a number more, and what turns between two plans."""

import random

from dimcellar.errors import Crowded, NoNumber, NoSpan, TooMany
from dimcellar.plans import Plan, crowd
from tests.plain_plan import months_planned, some_spans
from tests.things import Looked, anything_but, is_month, is_number, is_span, outcome

TEXT = "3: 1\n5: 0\n9: 2"


def of_three():
    """5 is planned for the month 0, 3 for 1, 9 for 2."""
    return Plan({3: (0, 4), 5: (0, 2), 9: (2, 2)})


def of_twelve():
    return Plan({number: (0, 20) for number in range(12)})


class Put(Looked):
    def assert_put(self, text, plan, *given):
        """The told plan has this text, and the elder one stays."""
        elder = str(plan)
        told = plan.put(*given)
        self.assertIs(type(told), Plan)
        self.assertIsNot(told, plan)
        self.assert_same(str(told), text)
        self.assert_same(str(plan), elder)
        return told

    def test_a_number_that_is_there(self):
        self.assert_put("3: 0\n5: 3\n9: 2", of_three(), 5, (3, 3))
        self.assert_put("3: 0\n5: 1\n9: 2", of_three(), 5, (1, 1))
        self.assert_put("3: 0\n5: 1\n9: 2", of_three(), 3, (0, 0))
        self.assert_put("3: 1\n5: 0\n9: 999", of_three(), 9, (999, 999))
        self.assert_put("3: 1\n5: 0\n9: 2", of_three(), 9, (0, 999))

    def test_a_number_more(self):
        self.assert_put("3: 1\n4: 3\n5: 0\n9: 2", of_three(), 4, (0, 4))
        self.assert_put("0: 1\n3: 3\n5: 0\n9: 2", of_three(), 0, (0, 4))
        self.assert_put("3: 3\n5: 1\n9: 2\n39: 0", of_three(), 39, (0, 0))
        self.assert_put("7: 999", Plan({}), 7, (999, 999))

    def test_the_same_span_again(self):
        told = self.assert_put(TEXT, of_three(), 5, (0, 2))
        self.assertTrue(told == of_three())

    def test_of_all_spans_then(self):
        """Each plan put on goes on from all spans ahead of it."""
        plan = of_three()
        plan = self.assert_put("3: 3\n5: 1\n9: 2\n39: 0", plan, 39, (0, 0))
        plan = self.assert_put("3: 4\n5: 1\n8: 3\n9: 2\n39: 0", plan, 8, (3, 3))
        plan = self.assert_put("3: 2\n5: 1\n8: 3\n9: 9\n39: 0", plan, 9, (9, 9))
        plan = self.assert_put("3: 1\n5: 0\n8: 3\n9: 9\n39: 500", plan, 39, (500, 501))
        self.assertTrue(plan.holds({3: 4, 5: 2, 8: 3, 9: 9, 39: 501}))
        self.assertFalse(plan.holds({3: 4, 5: 3, 8: 3, 9: 9, 39: 501}))
        self.assertFalse(plan.holds({3: 4, 5: 2, 8: 3, 9: 2, 39: 501}))

    def test_the_rate_is_kept(self):
        for rate in range(1, 5):
            plan = Plan({number: (7, 7) for number in range(rate)}, rate)
            self.refused_with(Crowded, {"first": 7, "last": 7, "many": rate + 1}, plan.put, 30, (7, 7))
            plan = plan.put(30, (8, 8))
            self.assert_same(plan.drunk_in(7), list(range(rate)))
            wanted = dict(zip(("first", "last", "many"), crowd({n: (7, 7) for n in [*range(rate), 30]}, rate)))
            self.refused_with(Crowded, wanted, plan.put, 30, (7, 7))
            self.assert_same(plan.put(30, (7, 8)).month(30), 8)

    def test_the_elder_one_stays(self):
        plan = of_three()
        told = plan.put(5, (3, 3)).put(4, (7, 7))
        self.assert_same(str(plan), TEXT)
        self.assertEqual(len(plan), 3)
        self.refused(NoNumber, plan.month, 4)
        self.assert_same(plan.drunk_in(0), [5])
        self.assertTrue(plan.holds({3: 4, 5: 1, 9: 2}))
        self.assertFalse(plan.holds({3: 4, 5: 3, 9: 2}))
        self.assertEqual(len(told), 4)
        self.assert_same(str(plan.put(4, (3, 3))), "3: 1\n4: 3\n5: 0\n9: 2")
        self.assert_same(str(told), "3: 0\n4: 7\n5: 3\n9: 2")

    def test_numbers_at_their_bounds_and_beyond(self):
        for number in (0, 1, 38, 39):
            self.assert_same(Plan({}).put(number, (4, 5)).month(number), 4)
        for plan in (of_three(), of_twelve(), Plan({})):
            for number in (-1, 40, 41, 10 ** 39, -(10 ** 39)):
                self.refused(NoNumber, plan.put, number, (30, 40))

    def test_numbers_of_other_kinds(self):
        for plan in (of_three(), of_twelve()):
            for thing in anything_but(lambda thing: is_number(thing, 0, 39)):
                self.refused(NoNumber, plan.put, thing, (30, 40))
                self.refused(NoNumber, plan.put, thing, None)
            self.assertTrue(plan == (of_three() if len(plan) == 3 else of_twelve()))

    def test_things_that_are_no_span(self):
        for plan in (of_three(), of_twelve()):
            text = str(plan)
            for thing in anything_but(is_span) + [
                    (1, 0), (999, 998), (-1, 0), (0, 1000), (1000, 1000), [0, 1], (0,), (0, 1, 2), ((0, 1),), "01",
                    {0: 1}, ("0", "1"), (0, None), (None, 0), (True, 1), (False, 1), (0, True), (True, True)]:
                for number in (3, 0, 39):
                    self.refused(NoSpan, plan.put, number, thing)
            self.assertEqual(str(plan), text)

    def test_one_month_of_another_kind(self):
        for thing in anything_but(is_month):
            self.refused(NoSpan, of_three().put, 3, (thing, 999))
            self.refused(NoSpan, of_three().put, 3, (0, thing))

    def test_a_thirteenth_number(self):
        plan = of_twelve()
        for number in (12, 20, 39):
            self.refused_with(TooMany, {"many": 13, "most": 12}, plan.put, number, (30, 40))
        self.assertEqual(len(plan), 12)
        self.assert_same(plan.put(11, (30, 40)).month(11), 30)
        self.refused_with(TooMany, {"many": 13, "most": 12}, plan.put(11, (30, 40)).put, 12, (0, 20))
        eleven = Plan({number: (0, 20) for number in range(11)})
        self.assertEqual(len(eleven.put(39, (30, 40))), 12)
        self.refused_with(TooMany, {"many": 13, "most": 12}, eleven.put(39, (30, 40)).put, 38, (0, 20))

    def test_crowded(self):
        plan = of_three()
        self.refused_with(Crowded, {"first": 2, "last": 2, "many": 2}, plan.put, 5, (2, 2))
        self.refused_with(Crowded, {"first": 0, "last": 2, "many": 4}, plan.put(3, (0, 2)).put, 0, (0, 2))
        self.refused_with(Crowded, {"first": 2, "last": 2, "many": 2}, plan.put, 0, (2, 2))
        self.assert_same(str(plan), TEXT)
        self.assert_same(str(plan.put(0, (2, 3))), "0: 3\n3: 1\n5: 0\n9: 2")

    def test_two_at_once(self):
        for plan in (of_three(), of_twelve()):
            for thing in (None, (1, 0), [0, 0], (0, 1000)):
                for number in (-1, 40, True, None, "3"):
                    self.refused(NoNumber, plan.put, number, thing)
                for number in (3, 20):
                    self.refused(NoSpan, plan.put, number, thing)
        twelve = Plan({number: (number, number) for number in range(12)})
        self.refused_with(TooMany, {"many": 13, "most": 12}, twelve.put, 12, (0, 0))
        self.refused(NoNumber, twelve.put, 40, (0, 0))
        self.refused_with(Crowded, {"first": 0, "last": 0, "many": 2}, twelve.put, 11, (0, 0))

    def test_by_names(self):
        self.assert_same(str(of_three().put(number=5, span=(3, 3))), "3: 0\n5: 3\n9: 2")
        self.assert_same(str(of_three().put(span=(3, 3), number=5)), "3: 0\n5: 3\n9: 2")
        self.refused(NoNumber, of_three().put, span=None, number=None)

    def test_far_from_all_others(self):
        plan = Plan({3: (0, 0)})
        plan = self.assert_put("3: 0\n4: 999", plan, 4, (999, 999))
        plan = self.assert_put("3: 0\n4: 999\n5: 1", plan, 5, (0, 999))
        plan = self.assert_put("3: 0\n4: 999\n5: 1\n6: 500", plan, 6, (500, 501))
        plan = self.assert_put("3: 999\n4: 0\n5: 1\n6: 500", plan.put(3, (998, 998)).put(4, (0, 0)), 3, (999, 999))
        self.refused_with(Crowded, {"first": 999, "last": 999, "many": 2}, plan.put, 7, (999, 999))
        self.refused_with(Crowded, {"first": 0, "last": 0, "many": 2}, plan.put, 7, (0, 0))
        self.assert_put("0: 0", Plan({}), 0, (0, 999))
        self.assert_put("0: 999", Plan({}), 0, (999, 999))

    def test_rows_of_spans_put(self):
        """Each plan is just the one that is made of all spans then, or is refused likewise."""
        chance = random.Random(41)
        for _ in range(40):
            rate, spans, months = chance.randrange(1, 4), {}, range(chance.choice((4, 8, 30)))
            plan = Plan(spans, rate)
            for _ in range(30):
                (number, span), = some_spans(chance, 1, months, 9).items()
                wanted = {**spans, number: span}
                if len(wanted) > 12:
                    self.refused_with(TooMany, {"many": 13, "most": 12}, plan.put, number, span)
                    continue
                planned = months_planned(wanted, rate, months)
                if len(planned) < len(wanted):
                    self.assertEqual(outcome(plan.put, number, span), outcome(Plan, wanted, rate))
                    self.refused(Crowded, plan.put, number, span)
                    continue
                elder, before = plan, months_planned(spans, rate, months)
                plan, spans = plan.put(number, span), wanted
                self.assertEqual({one: plan.month(one) for one in spans}, planned)
                self.assertTrue(plan == Plan(spans, rate))
                self.assert_same(elder.turned(plan), [
                    one for one in sorted(planned) if before.get(one) != planned[one]])


class Turned(Looked):
    def assert_turned(self, wanted, one, other):
        self.assert_same(one.turned(other), wanted)
        self.assert_same(other.turned(one), wanted)

    def test_nothing(self):
        plan = of_three()
        self.assert_turned([], plan, of_three())
        self.assert_turned([], Plan({}), Plan({}))
        self.assert_turned([], Plan({}), Plan({}, 3))
        self.assert_same(plan.turned(plan), [])

    def test_equal_months_of_other_spans_and_rates(self):
        self.assert_turned([], of_three(), Plan({3: (1, 1), 5: (0, 0), 9: (2, 50)}, 4))

    def test_numbers_of_just_one(self):
        self.assert_turned([3, 5, 9], of_three(), Plan({}))
        self.assert_turned([4], of_three(), of_three().put(4, (7, 7)))
        self.assert_turned([0, 39], of_three().put(39, (7, 7)), of_three().put(0, (7, 7)))
        self.assert_turned([3, 4, 5, 9, 10], of_three(), Plan({4: (0, 0), 10: (1, 1)}))
        self.assert_turned([0, 39], Plan({0: (0, 0)}), Plan({39: (0, 0)}))

    def test_numbers_of_both_for_unlike_months(self):
        self.assert_turned([3, 5], of_three(), of_three().put(5, (3, 3)))
        self.assert_turned([3, 5], of_three(), of_three().put(3, (0, 0)))
        self.assert_turned([9], of_three(), of_three().put(9, (999, 999)))
        self.assert_turned([3], Plan({3: (0, 0)}), Plan({3: (1, 1)}))

    def test_of_both_sorts(self):
        self.assert_turned([3, 4, 9], of_three(), Plan({4: (1, 1), 5: (0, 0), 9: (3, 3)}))

    def test_a_number_planned_for_the_month_0_is_not_like_one_that_is_not_planned(self):
        self.assert_turned([5], Plan({5: (0, 0)}), Plan({}))
        self.assert_turned([0], Plan({0: (0, 0)}), Plan({}))

    def test_rising(self):
        one = Plan({number: (0, 30) for number in (39, 10, 9, 2, 0, 30)})
        self.assert_turned([0, 2, 9, 10, 30, 39], one, Plan({}))
        other = Plan({number: (31 - place, 40) for place, number in enumerate((39, 10, 11, 9, 1, 20))})
        self.assert_turned([0, 1, 2, 9, 10, 11, 20, 30, 39], one, other)

    def test_the_told_list_is_new_and_both_stay(self):
        one, other = of_three(), of_three().put(5, (3, 3))
        told = one.turned(other)
        told.append(7)
        self.assert_turned([3, 5], one, other)
        self.assertIsNot(one.turned(other), one.turned(other))
        self.assert_same(str(one), TEXT)
        self.assert_same(str(other), "3: 0\n5: 3\n9: 2")

    def test_by_name(self):
        self.assert_same(of_three().turned(other=Plan({})), [3, 5, 9])

    def test_all_of_some_plans(self):
        chance = random.Random(42)
        plans = []
        while len(plans) < 25:
            months = {number: chance.randrange(8) for number in chance.sample(range(14), chance.randrange(9))}
            if all(list(months.values()).count(month) <= 2 for month in months.values()):
                plans.append((months, Plan({number: (month, month) for number, month in months.items()}, 2)))
        for months, plan in plans:
            for others, other in plans:
                wanted = {number for number, _ in set(months.items()) ^ set(others.items())}
                self.assert_turned(sorted(wanted), plan, other)
                self.assertIs(plan == other, not wanted)
