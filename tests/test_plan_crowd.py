"""Points 3 and 9: stretches of months that are too small for the spans within them."""

import random

from dimcellar.errors import Crowded
from dimcellar.plans import Plan, crowd, is_crowd
from tests.plain_plan import is_crowded, least_crowd, some_spans
from tests.things import Looked, anything

# Three in the month 5: the least stretch that is too small begins a month ahead of them.
THREE = {1: (5, 5), 2: (5, 5), 3: (5, 5)}


class LeastCrowd(Looked):
    def assert_crowd(self, wanted, spans, *rate):
        self.assert_same(crowd(spans, *rate), wanted)
        first, last, many = wanted
        self.refused_with(Crowded, {"first": first, "last": last, "many": many}, Plan, spans, *rate)
        self.assertIs(is_crowd(spans, (first, last), *rate), True)

    def test_none_where_there_is_a_plan(self):
        for spans, rate in (
                ({}, 1), ({}, 4), ({3: (0, 0)}, 1), ({3: (0, 1), 4: (0, 1)}, 1), (THREE, 3), (THREE, 4),
                ({number: (988, 999) for number in range(12)}, 1), ({number: (0, 2) for number in range(12)}, 4)):
            self.assertIs(crowd(spans, rate), None)
        self.assertIs(crowd({3: (0, 1), 4: (0, 1)}), None)

    def test_it_may_begin_ahead_of_all_spans(self):
        self.assert_crowd((4, 5, 3), THREE)
        self.assert_crowd((5, 5, 3), THREE, 2)
        self.assert_crowd((7, 8, 3), {1: (8, 8), 2: (8, 8), 3: (8, 8), 4: (9, 900), 5: (0, 800)})
        self.assert_crowd((489, 499, 12), {number: (499, 499) for number in range(12)})
        self.assert_crowd((495, 499, 12), {number: (499, 499) for number in range(12)}, 2)
        self.assert_crowd((497, 499, 12), {number: (499, 499) for number in range(12)}, 3)
        self.assert_crowd((498, 499, 12), {number: (499, 499) for number in range(12)}, 4)

    def test_it_begins_at_no_month_ahead_of_the_first(self):
        twelve = {number: (0, 0) for number in range(12)}
        for rate in range(1, 5):
            self.assert_crowd((0, 0, 12), twelve, rate)
        self.assert_crowd((0, 1, 3), {1: (1, 1), 2: (1, 1), 3: (1, 1)})
        self.assert_crowd((0, 1, 4), {1: (1, 1), 2: (1, 1), 3: (1, 1), 4: (1, 1)})
        self.assert_crowd((0, 10, 12), {number: (10, 10) for number in range(12)})

    def test_it_begins_as_early_as_can_be(self):
        """Though a shorter one that ends earlier is too small likewise."""
        self.assert_crowd((3, 7, 6), {
            1: (4, 4), 2: (4, 4), 3: (6, 7), 4: (6, 7), 5: (6, 6), 6: (7, 7)})
        self.assert_crowd((10, 12, 4), {1: (10, 12), 2: (11, 12), 3: (12, 12), 4: (11, 11)})

    def test_of_those_that_begin_alike_the_one_that_ends_first(self):
        self.assert_crowd((3, 3, 2), {1: (3, 3), 2: (3, 3), 3: (4, 5), 4: (4, 5)})
        self.assert_crowd((3, 4, 3), {1: (3, 4), 2: (3, 4), 3: (3, 4), 4: (3, 5)})
        self.assert_crowd((0, 0, 2), {1: (0, 0), 2: (0, 0), 3: (0, 0 + 1), 4: (1, 1), 5: (1, 1)})

    def test_as_tuples_compare_and_not_as_texts(self):
        self.assert_crowd((9, 9, 2), {1: (9, 9), 2: (9, 9), 3: (100, 100), 4: (100, 100)})
        self.assert_crowd((8, 9, 3), {1: (9, 9), 2: (9, 9), 3: (8, 9), 4: (8, 10)})

    def test_spans_that_lie_partly_within_do_not_count(self):
        self.assert_crowd((5, 5, 2), {1: (5, 5), 2: (5, 5), 3: (0, 5), 4: (5, 20)})
        self.assert_crowd((4, 5, 3), {1: (5, 5), 2: (5, 5), 3: (4, 5), 4: (5, 6)})
        self.assert_crowd((4, 5, 3), {1: (5, 5), 2: (5, 5), 3: (4, 5), 4: (5, 20), 5: (0, 20)})

    def test_more_than_there_is_room_for_and_no_fewer(self):
        for rate in range(1, 5):
            for months in range(1, 12 // rate + 1):
                just = {number: (50, 49 + months) for number in range(rate * months)}
                self.assertIs(crowd(just, rate), None)
                if len(just) < 12:
                    self.assert_crowd((50, 49 + months, len(just) + 1), {**just, 39: (50, 49 + months)}, rate)

    def test_at_the_last_month(self):
        self.assert_crowd((999, 999, 2), {1: (999, 999), 2: (999, 999)})
        self.assert_crowd((998, 999, 3), {1: (999, 999), 2: (999, 999), 3: (999, 999)})
        self.assert_crowd((989, 999, 12), {number: (989, 999) for number in range(12)})

    def test_all_stretches_of_all_months_gone_through(self):
        chance = random.Random(21)
        for _ in range(8):
            months = range(chance.choice((0, 3, 400, 970)), 1000)
            spans = some_spans(chance, chance.randrange(9), months, 1000)
            at = chance.choice(months)
            for number in chance.sample(range(40), 12 - len(spans)):
                if len(spans) < 12:
                    spans[number] = at, min(at + chance.randrange(4), 999)
            for rate in (1, 2):
                self.assert_same(crowd(spans, rate), least_crowd(spans, rate))

    def test_the_told_tuple_is_told_again(self):
        told = crowd(THREE)
        self.assert_same(crowd(THREE), told)
        self.assertIs(is_crowd(THREE, told), False)
        self.assertIs(is_crowd(THREE, told[:2]), True)

    def test_by_names(self):
        self.assert_same(crowd(spans=THREE, rate=2), (5, 5, 3))
        self.assert_same(crowd(spans=THREE), (4, 5, 3))
        self.assert_same(crowd(rate=2, spans=THREE), (5, 5, 3))


class IsCrowd(Looked):
    def test_all_stretches_held_against_a_plain_count(self):
        chance = random.Random(22)
        seen = []
        for _ in range(40):
            spans = some_spans(chance, chance.choice((5, 9, 12)), range(8), chance.choice((1, 3, 9)))
            rate = chance.choice((1, 1, 2, 3, 4))
            for first in range(12):
                for last in range(12):
                    told = is_crowd(spans, (first, last), rate)
                    self.assertIs(told, is_crowded(spans, rate, first, last), f"{spans} {rate} {first} {last}")
                    seen.append(told)
        self.assertGreater(seen.count(True), 50)
        self.assertGreater(seen.count(False), 50)

    def test_other_stretches_than_the_least(self):
        for stretch in ((4, 5), (5, 5), (5, 6)):
            self.assertIs(is_crowd(THREE, stretch), True)
        for stretch in ((3, 5), (5, 7), (4, 6), (4, 4), (6, 6), (0, 5), (5, 999), (0, 999)):
            self.assertIs(is_crowd(THREE, stretch), False)

    def test_a_rate_left_out_is_one(self):
        self.assertIs(is_crowd({1: (5, 5), 2: (5, 5)}, (5, 5)), True)
        self.assertIs(is_crowd({1: (5, 5), 2: (5, 5)}, (5, 5), 1), True)
        self.assertIs(is_crowd({1: (5, 5), 2: (5, 5)}, (5, 5), 2), False)

    def test_where_there_is_a_plan_no_stretch_is_one(self):
        for spans, rate in (({}, 1), ({3: (4, 4)}, 1), (THREE, 3), ({3: (4, 6), 4: (4, 5), 5: (4, 4)}, 1)):
            Plan(spans, rate)
            for first in range(10):
                for last in range(10):
                    self.assertIs(is_crowd(spans, (first, last), rate), False)

    def test_the_first_behind_the_last(self):
        for spans in ({}, THREE):
            for stretch in ((1, 0), (2, 0), (5, 4), (6, 5), (6, 4), (7, 5), (999, 0), (999, 5)):
                for rate in range(1, 5):
                    self.assertIs(is_crowd(spans, stretch, rate), False)

    def test_months_beyond_the_bounds(self):
        late = {number: (999, 999) for number in range(12)}
        early = {number: (0, 0) for number in range(12)}
        self.assertIs(is_crowd(late, (999, 999)), True)
        self.assertIs(is_crowd(early, (0, 0)), True)
        for stretch in ((999, 1000), (998, 1001), (1000, 1000), (999, 1009), (999, 10 ** 39)):
            self.assertIs(is_crowd(late, stretch), False)
        for stretch in ((-1, 0), (-2, 1), (-1, -1), (-10, 0), (-(10 ** 39), 0)):
            self.assertIs(is_crowd(early, stretch), False)

    def test_a_truth_is_no_month(self):
        spans = {number: (0, 1) for number in range(12)}
        spans[0] = spans[1] = 0, 0
        spans[2] = spans[3] = 1, 1
        for stretch in ((0, 0), (0, 1), (1, 1)):
            self.assertIs(is_crowd(spans, stretch), True)
        for stretch in ((False, 0), (0, False), (False, False), (0, True), (False, 1), (False, True), (True, 1),
                        (1, True), (True, True)):
            self.assertIs(is_crowd(spans, stretch), False)

    def test_things_of_other_kinds(self):
        spans = {number: (5, 5) for number in range(12)}
        for stretch in ([5, 5], [5], (5,), 5, (5, 5, 5), (5, 5, 12), (5, 5, None), ((5, 5),), [(5, 5)], {5: 5},
                        {5: (5, 5)}, ("5", "5"), "55", (5, None), (None, 5), ([5], [5]), ((5, 5), (5, 5)), (), None):
            self.assertIs(is_crowd(spans, stretch), False, repr(stretch))
        self.assertIs(is_crowd(spans, (5, 5)), True)

    def test_of_anything(self):
        for spans in ({}, {3: (4, 4)}, {1: (500, 500), 2: (500, 500)}):
            for thing in anything():
                self.assertIs(is_crowd(spans, thing), False)
        for thing in anything():
            self.assertIs(is_crowd({1: (500, 500), 2: (500, 500)}, (500, thing)), False)
            self.assertIs(is_crowd({1: (500, 500), 2: (500, 500)}, (thing, 500)), False)

    def test_by_names(self):
        self.assertIs(is_crowd(spans=THREE, thing=(3, 5), rate=1), False)
        self.assertIs(is_crowd(rate=2, thing=(5, 5), spans=THREE), True)
        self.assertIs(is_crowd(spans=THREE, thing=(5, 6)), True)
        self.assertIs(is_crowd(THREE, (5, 6), rate=2), False)
