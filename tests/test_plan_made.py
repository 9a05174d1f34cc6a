"""Points 2, 3 and 9: a plan made of spans and a rate, and what is none of these."""

import copy
import itertools
import random

from dimcellar.errors import Crowded, NoRate, NoSpans
from dimcellar.plans import Plan, crowd, is_crowd
from tests.plain_plan import has_plan, is_right, least_crowd, months_planned, some_spans
from tests.things import Looked, anything, anything_but, is_month, is_number, is_span

TWELVE = {number: (0, 11) for number in range(12)}


def are_spans(thing):
    return type(thing) is dict and len(thing) <= 12 and all(
        is_number(number, 0, 39) and is_span(span) for number, span in thing.items())


def is_rate(thing):
    return is_number(thing, 1, 4)


def can_be_key(thing):
    try:
        hash(thing)
    except TypeError:
        return False
    return True


def months_of(plan, numbers):
    return {number: plan.month(number) for number in numbers}


class Planned(Looked):
    def assert_planned(self, wanted, spans, *rate):
        plan = Plan(spans, *rate)
        self.assertEqual(len(plan), len(wanted))
        self.assert_same(months_of(plan, sorted(spans)), dict(sorted(wanted.items())))

    def test_of_none(self):
        for rate in range(1, 5):
            plan = Plan({}, rate)
            self.assert_same(len(plan), 0)
            self.assertEqual(str(plan), "")
            self.assertEqual([plan.drunk_in(month) for month in range(1000)], [[]] * 1000)

    def test_of_one(self):
        for span in ((0, 0), (0, 999), (999, 999), (5, 5), (5, 7), (998, 999), (500, 999)):
            for number in (0, 1, 17, 39):
                for rate in range(1, 5):
                    self.assert_planned({number: span[0]}, {number: span}, rate)

    def test_the_span_that_ends_first_goes_first(self):
        self.assert_planned({1: 1, 2: 0}, {1: (0, 9), 2: (0, 8)})
        self.assert_planned({1: 0, 2: 1}, {1: (0, 8), 2: (0, 9)})
        self.assert_planned({1: 5, 2: 3, 3: 4}, {1: (3, 9), 2: (3, 4), 3: (4, 5)})
        self.assert_planned({7: 0, 1: 2, 3: 1}, {7: (0, 0), 1: (0, 2), 3: (1, 1)})

    def test_one_that_begins_later_may_go_first(self):
        self.assert_planned({0: 1, 1: 0, 2: 3, 3: 2}, {0: (0, 9), 1: (0, 8), 2: (0, 20), 3: (2, 10)})

    def test_one_that_begins_earlier_is_not_kept_waiting(self):
        self.assert_planned({0: 0, 1: 1}, {0: (0, 500), 1: (1, 1)})
        self.assert_planned({0: 2, 1: 1, 2: 0}, {0: (0, 500), 1: (1, 1), 2: (0, 100)})

    def test_of_equal_last_months_the_less_number_goes_first(self):
        self.assert_planned({9: 1, 10: 2, 2: 0}, {9: (0, 9), 10: (0, 9), 2: (0, 9)})
        self.assert_planned({39: 3, 4: 4, 0: 5}, {39: (3, 9), 4: (4, 9), 0: (5, 9)})
        self.assert_planned({39: 3, 4: 2, 0: 5}, {39: (3, 9), 4: (2, 9), 0: (5, 9)})
        self.assert_planned({0: 2, 1: 1}, {0: (2, 3), 1: (1, 3)})
        self.assert_planned({number: number for number in range(12)}, TWELVE)

    def test_the_order_in_the_dict_turns_nothing(self):
        spans = {9: (0, 9), 10: (0, 9), 2: (0, 9), 3: (1, 4), 0: (1, 4)}
        wanted = {2: 0, 0: 1, 3: 2, 9: 3, 10: 4}
        for order in itertools.permutations(spans):
            self.assert_planned(wanted, {number: spans[number] for number in order})

    def test_as_many_in_a_month_as_the_rate(self):
        for rate in range(1, 5):
            self.assert_planned({number: number // rate for number in range(12)}, TWELVE, rate)

    def test_a_rate_left_out_is_one(self):
        self.assert_planned({3: 5, 4: 6}, {3: (5, 6), 4: (5, 6)})
        self.refused_with(Crowded, {"first": 5, "last": 5, "many": 2}, Plan, {3: (5, 5), 4: (5, 5)})
        self.assert_planned({3: 5, 4: 5}, {3: (5, 5), 4: (5, 5)}, 2)

    def test_months_may_be_left_empty(self):
        self.assert_planned({0: 3, 1: 500, 2: 999}, {0: (3, 999), 1: (500, 999), 2: (999, 999)})
        self.assert_planned({0: 0, 1: 998, 2: 999}, {0: (0, 0), 1: (998, 999), 2: (998, 999)})

    def test_a_span_is_planned_up_to_its_last_month(self):
        self.assert_planned({0: 0, 1: 1, 2: 2}, {0: (0, 0), 1: (0, 1), 2: (0, 2)})
        self.assert_planned({0: 997, 1: 998, 2: 999}, {0: (997, 999), 1: (997, 999), 2: (997, 999)})
        self.assert_planned({5: 999, 6: 999, 7: 999, 8: 999}, {number: (999, 999) for number in range(5, 9)}, 4)

    def test_by_names(self):
        spans = {3: (5, 5), 4: (5, 5)}
        for plan in (Plan(spans=spans, rate=2), Plan(rate=2, spans=spans), Plan(spans, rate=2)):
            self.assert_same(plan.drunk_in(5), [3, 4])
        self.assert_same(Plan(spans={3: (5, 6)}).month(3), 5)


class Held(Looked):
    """Rows of spans of all sorts, held against a plain plan and against all stretches."""

    def hold(self, spans, rate, months):
        """All spans lie within the months; a stretch that is too small may begin some months ahead of them."""
        shown = f"{spans!r} {rate}"
        months = range(max(0, months[0] - 12), months[-1] + 1)
        wanted = months_planned(spans, rate, months)
        if len(wanted) == len(spans):
            plan = Plan(spans, rate)
            self.assertEqual(months_of(plan, spans), wanted, shown)
            self.assertTrue(is_right(spans, rate, months_of(plan, spans)), shown)
            self.assertIsNone(least_crowd(spans, rate, months), shown)
            self.assertIs(crowd(spans, rate), None, shown)
            return True
        told = least_crowd(spans, rate, months)
        self.assertIsNotNone(told, shown)
        first, last, many = told
        self.refused_with(Crowded, {"first": first, "last": last, "many": many}, Plan, spans, rate)
        self.assert_same(crowd(spans, rate), told)
        self.assertIs(is_crowd(spans, (first, last), rate), True, shown)
        return False

    def hold_some(self, seed, months, longest, many):
        chance = random.Random(seed)
        made = []
        for _ in range(many):
            spans = some_spans(chance, chance.randrange(13), months, longest)
            made.append(self.hold(spans, chance.randrange(1, 5), months))
        return made

    def test_near_one_another(self):
        made = self.hold_some(1, range(20, 40), 3, 200) + self.hold_some(2, range(100, 120), 9, 200)
        self.assertEqual({True, False}, set(made))

    def test_early(self):
        for seed, months, longest in ((3, range(6), 4), (4, range(12), 12), (5, range(3), 2)):
            self.assertIn(False, self.hold_some(seed, months, longest, 150))

    def test_late(self):
        for seed, months, longest in ((6, range(980, 1000), 4), (7, range(990, 1000), 9)):
            self.assertIn(False, self.hold_some(seed, months, longest, 150))

    def test_tight_ones(self):
        """Many spans in few months: now there is just a way, now there is just none."""
        chance = random.Random(8)
        made = []
        for _ in range(300):
            rate = chance.randrange(1, 5)
            many = 12 // rate + chance.randrange(2)
            months = range(30, 30 + many)
            made.append(self.hold(some_spans(chance, 12, months, many * 2), rate, months))
        self.assertGreater(made.count(True), 20)
        self.assertGreater(made.count(False), 20)

    def test_up_to_a_thousand_months_long(self):
        chance = random.Random(9)
        for many in range(13):
            spans = some_spans(chance, many, range(1000), 1000)
            self.assertTrue(self.hold(spans, 1, range(1000)))
            spans[39] = spans[38] = spans[37] = (many * 70, many * 70)
            while len(spans) > 12:
                del spans[min(spans)]
            self.assertFalse(self.hold(spans, 1, range(1000)))
        self.assertTrue(self.hold({number: (0, 999) for number in range(28, 40)}, 1, range(1000)))

    def test_none_at_all(self):
        for rate in range(1, 5):
            self.assertTrue(self.hold({}, rate, range(1000)))

    def test_far_from_one_another(self):
        """Month by month from 0 on, be there hundreds of months between two spans in which nothing waits."""
        for spans in (
                {3: (0, 0), 4: (999, 999)}, {4: (0, 0), 3: (999, 999)}, {7: (0, 999), 8: (999, 999), 9: (0, 0)},
                {1: (0, 2), 2: (0, 0), 3: (500, 500), 4: (499, 500), 5: (997, 999), 6: (998, 999), 7: (999, 999)},
                {1: (0, 999), 2: (0, 998), 3: (1, 1), 4: (998, 999), 5: (998, 999), 6: (400, 400)}):
            for rate in (1, 2):
                self.assertTrue(self.hold(spans, rate, range(1000)))
        for spans in (
                {1: (0, 0), 2: (0, 0), 3: (999, 999), 4: (999, 999)}, {1: (0, 0), 2: (999, 999), 3: (999, 999)},
                {1: (0, 5), 2: (500, 500), 3: (500, 500), 4: (500, 501), 5: (999, 999)}):
            self.assertFalse(self.hold(spans, 1, range(1000)))

    def test_some_spans_early_and_some_late(self):
        chance = random.Random(11)
        made = []
        for _ in range(30):
            spans = {}
            for months in (range(4), range(498, 502), range(996, 1000)):
                spans.update(some_spans(chance, chance.randrange(5), months, 4))
            made.append(self.hold(spans, chance.randrange(1, 3), range(1000)))
        self.assertEqual({True, False}, set(made))

    def test_twelve_in_the_last_twelve_months(self):
        for rate in range(1, 5):
            spans = {number: (988, 999) for number in range(12)}
            self.assertTrue(self.hold(spans, rate, range(1000)))
            spans[11] = spans[10] = spans[9] = spans[8] = spans[7] = (990, 990)
            self.assertFalse(self.hold(spans, rate, range(1000)))

    def test_where_none_is_told_no_months_at_all_make_a_plan(self):
        chance = random.Random(10)
        made = []
        for _ in range(400):
            spans = some_spans(chance, chance.randrange(2, 8), range(chance.randrange(2, 7)), 3)
            rate = chance.randrange(1, 3)
            self.assertEqual(has_plan(spans, rate), crowd(spans, rate) is None, f"{spans!r} {rate}")
            made.append(has_plan(spans, rate))
        self.assertEqual({True, False}, set(made))

    def test_all_small_spans(self):
        """Each row of three spans of the months 0 to 2, with rates 1 and 2."""
        spans = [(first, last) for first in range(3) for last in range(first, 3)]
        for given in itertools.product(spans, repeat=3):
            for rate in (1, 2):
                self.hold(dict(zip((2, 0, 1), given)), rate, range(3))


class HandedIn(Looked):
    def test_the_dict_stays(self):
        for spans in ({}, {5: (0, 4), 3: (2, 4), 39: (0, 0)}, {5: (4, 4), 3: (4, 4), 39: (0, 0)}):
            wanted = copy.deepcopy(spans)
            for ask in (Plan, crowd, lambda given: is_crowd(given, (4, 4))):
                try:
                    ask(spans)
                except Crowded:
                    pass
                self.assert_same(spans, wanted)

    def test_the_dict_may_be_changed_later(self):
        spans = {5: (0, 4), 3: (2, 4)}
        plan = Plan(spans)
        spans[5] = (3, 4)
        spans[6] = (0, 0)
        del spans[3]
        self.assertEqual(len(plan), 2)
        self.assert_same(str(plan), "3: 2\n5: 0")
        self.assertTrue(plan.holds({5: 1, 3: 3}))
        self.assert_same(str(plan.put(7, (0, 0))), "3: 2\n5: 1\n7: 0")
        spans.clear()
        self.assert_same(str(plan.put(7, (0, 0))), "3: 2\n5: 1\n7: 0")


class Refused(Looked):
    """Things that are no spans or no rate, alike of all that are made or asked of these."""

    def asks(self):
        return (
            lambda *given: Plan(*given), lambda *given: crowd(*given),
            lambda spans, *rate: is_crowd(spans, (0, 0), *rate))

    def assert_refused(self, error, *given):
        for ask in self.asks():
            self.refused(error, ask, *given)

    def test_things_that_are_no_spans(self):
        for thing in anything_but(are_spans):
            self.assert_refused(NoSpans, thing)
        for thing in ([(0, 1)], ((0, 1),), [(0, (0, 1))], ((0, (0, 1)),), "{}", {0: (0, 1), 1: None}):
            self.assert_refused(NoSpans, thing)

    def test_twelve_and_thirteen_spans(self):
        self.assertEqual(len(Plan(TWELVE)), 12)
        self.assertIsNone(crowd(TWELVE))
        self.assert_refused(NoSpans, {number: (0, 999) for number in range(13)})
        self.assert_refused(NoSpans, {number: (0, 999) for number in range(40)})

    def test_numbers_at_their_bounds_and_beyond(self):
        for number in range(40):
            self.assert_same(Plan({number: (7, 8)}).month(number), 7)
        for number in (-1, 40, 41, 10 ** 39, -(10 ** 39)):
            self.assert_refused(NoSpans, {number: (7, 8)})
            self.assert_refused(NoSpans, {3: (7, 8), number: (7, 8)})

    def test_numbers_of_other_kinds(self):
        for thing in anything():
            if can_be_key(thing) and not is_number(thing, 0, 39):
                self.assert_refused(NoSpans, {thing: (7, 8)})
                self.assert_refused(NoSpans, {3: (7, 8), thing: (7, 8)})
                self.assert_refused(NoSpans, {thing: (7, 8), 3: (7, 8)})

    def test_months_at_their_bounds_and_beyond(self):
        for span in ((0, 0), (0, 999), (999, 999), (1, 998)):
            self.assert_same(Plan({3: span}).month(3), span[0])
        for span in ((-1, 0), (0, 1000), (1000, 1000), (-1, -1), (1, 0), (999, 998), (999, 0), (-(10 ** 39), 0)):
            self.assert_refused(NoSpans, {3: span})
            self.assert_refused(NoSpans, {2: (0, 1), 3: span})
            self.assert_refused(NoSpans, {3: span, 2: (0, 1)})

    def test_months_of_other_kinds(self):
        for thing in anything_but(is_month):
            self.assert_refused(NoSpans, {3: (thing, 999)})
            self.assert_refused(NoSpans, {3: (0, thing)})
            self.assert_refused(NoSpans, {3: (thing, thing)})

    def test_spans_of_other_kinds(self):
        things = anything_but(is_span) + [
            [3, 4], (3,), (3, 4, 5), (3, 4, None), ((3, 4),), {3: 4}, "34", ("3", "4"), (None, 4), (3, None)]
        for thing in things:
            self.assert_refused(NoSpans, {3: thing})
            self.assert_refused(NoSpans, {2: (0, 1), 3: thing})
            self.assert_refused(NoSpans, {3: thing, 2: (0, 1)})

    def test_rates_at_their_bounds_and_beyond(self):
        four = {number: (7, 7) for number in range(4)}
        self.assert_same(Plan(four, 4).drunk_in(7), [0, 1, 2, 3])
        self.assert_same(crowd(four, 1), (5, 7, 4))
        for rate in (0, 5, -1, 12, 10 ** 39, -(10 ** 39)):
            self.assert_refused(NoRate, {}, rate)
            self.assert_refused(NoRate, {3: (0, 1)}, rate)

    def test_rates_of_other_kinds(self):
        for thing in anything_but(is_rate):
            self.assert_refused(NoRate, {}, thing)
            self.assert_refused(NoRate, {3: (0, 1)}, thing)

    def test_two_at_once(self):
        for rate in (0, 5, None, "1", True, [1]):
            for spans in (None, [], {3: (1, 0)}, {40: (0, 1)}, {number: (0, 999) for number in range(13)}):
                self.assert_refused(NoSpans, spans, rate)
            self.assert_refused(NoRate, {3: (0, 0), 4: (0, 0)}, rate)
        self.assert_refused(NoSpans, {3: (0, 0), 4: (0, 0), 40: (0, 0)})

    def test_by_names(self):
        self.refused(NoSpans, Plan, rate=0, spans=None)
        self.refused(NoRate, Plan, rate=0, spans={})
        self.refused(NoSpans, crowd, rate=0, spans=None)
        self.refused(NoRate, crowd, rate=0, spans={})
        self.refused(NoSpans, is_crowd, rate=0, thing=None, spans=None)
        self.refused(NoRate, is_crowd, rate=0, thing=None, spans={})
