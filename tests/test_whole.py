"""Point 3, the whole: a list read, laid down, planned, drunk month by month, and all of it undone."""

import random

from dimcellar.bottles import Bottle
from dimcellar.cellars import Cellar
from dimcellar.desk import Desk
from dimcellar.errors import Crowded, NoDeed
from dimcellar.lines import read, written
from dimcellar.plans import Plan, crowd, is_crowd
from tests.plain_plan import least_crowd, months_planned, some_spans
from tests.things import Looked, fields, outcome

ROOMS = (2, 1, 3)
HOLD = 3
PLACES = [(room, shelf) for room in range(len(ROOMS)) for shelf in range(ROOMS[room])]
MONTHS = range(40)


def some_bottles(chance):
    """One to twelve bottles, equal ones among them."""
    kinds = [Bottle(chance.choice(("ann", "bea")), chance.randrange(1999, 2001), chance.choice((37, 75, 150)))
             for _ in range(4)]
    return [chance.choice(kinds) for _ in range(chance.randrange(1, 13))]


def some_places(chance, many):
    return chance.sample(PLACES * HOLD, many)


def spans_of_all(chance, many, longest):
    """A span for each of so many bottles."""
    spans = some_spans(chance, many, chance.choice((MONTHS[:6], MONTHS[13:19], MONTHS[12:])), longest)
    return dict(zip(range(many), spans.values()))


class Whole(Looked):
    def read_and_laid(self, chance):
        """The cellar with all bottles of a text, and its texts behind each deed, the empty one's ahead."""
        bottles = some_bottles(chance)
        lines = written(bottles).split("\n")
        lines.insert(chance.randrange(len(lines) + 1), " \t")
        told = read("\n".join(lines))
        self.assertTrue(told == bottles)
        cellar = Cellar(ROOMS, HOLD)
        texts = [str(cellar)]
        for number, (bottle, place) in enumerate(zip(told, some_places(chance, len(told)))):
            self.assert_same(cellar.lay(bottle, *place), number)
            self.assert_same(cellar.place(number), place)
            self.assertIs(cellar.bottle(number), bottle)
            texts.append(str(cellar))
        self.assert_same([fields(cellar.bottle(number)) for number in range(len(bottles))], list(map(fields, bottles)))
        return cellar, texts

    def plan_or_crowd(self, spans, rate):
        """The plan, None where there is a stretch instead."""
        months = months_planned(spans, rate, MONTHS)
        if len(months) < len(spans):
            first, last, many = least_crowd(spans, rate, MONTHS)
            self.refused_with(Crowded, {"first": first, "last": last, "many": many}, Plan, spans, rate)
            self.assert_same(crowd(spans, rate), (first, last, many))
            self.assertIs(is_crowd(spans, (first, last), rate), True)
            return None
        plan = Plan(spans, rate)
        self.assertIsNone(crowd(spans, rate))
        self.assert_same({number: plan.month(number) for number in spans}, {number: months[number] for number in spans})
        self.assertTrue(plan.holds(months))
        return plan

    def drink_all(self, cellar, plan, texts):
        for month in MONTHS:
            for number in plan.drunk_in(month):
                self.assert_same(plan.month(number), month)
                self.assertIsNone(cellar.became(number))
                cellar.drink(number, month)
                self.assert_same(cellar.became(number), ("drunk", month, ""))
                self.assertIsNone(cellar.place(number))
                texts.append(str(cellar))
        self.assertEqual(len(cellar), 0)
        self.assertEqual(sum(map(sum, cellar.counts())), 0)
        self.assert_same(str(cellar), texts[0])

    def undo_all(self, cellar, texts):
        made = cellar.twin()
        for text in reversed(texts[:-1]):
            cellar.undo()
            self.assert_same(str(cellar), text)
            self.assertEqual(len(cellar), sum(map(sum, cellar.counts())))
        self.refused(NoDeed, cellar.undo)
        self.assertTrue(cellar == Cellar(ROOMS, HOLD))
        self.assert_same(str(made), texts[-1])

    def run_whole(self, seed, rate, longest):
        chance = random.Random(seed)
        cellar, texts = self.read_and_laid(chance)
        spans = spans_of_all(chance, len(cellar), longest)
        plan = self.plan_or_crowd(spans, rate)
        if plan is not None:
            self.drink_all(cellar, plan, texts)
        self.undo_all(cellar, texts)
        return plan is not None

    def test_rates_from_one_to_four(self):
        made = [self.run_whole(seed, rate, longest) for seed in range(12) for rate in range(1, 5) for longest in (2, 9)]
        self.assertGreater(made.count(True), 20)
        self.assertGreater(made.count(False), 10)

    def test_a_span_put_anew_and_the_plan_gone_on_with(self):
        for seed in range(30):
            chance = random.Random(seed)
            cellar, texts = self.read_and_laid(chance)
            spans = spans_of_all(chance, len(cellar), 9)
            number, span = chance.randrange(len(cellar)), (30, 30 + chance.randrange(5))
            plan = self.plan_or_crowd(spans, 2)
            later = self.plan_or_crowd({**spans, number: span}, 2)
            if plan is not None and later is not None:
                put = plan.put(number, span)
                self.assertTrue(put == later)
                self.assert_same(plan.turned(put), [
                    one for one in sorted(spans) if plan.month(one) != later.month(one)])
                self.drink_all(cellar, put, texts)
                self.undo_all(cellar, texts)

    def test_at_a_desk(self):
        """The same told to a desk, line by line."""
        for seed in range(20):
            chance = random.Random(seed)
            cellar, _ = self.read_and_laid(chance)
            desk = Desk(ROOMS, HOLD)
            deeds = [f"lay {bottle.maker} {bottle.year} {bottle.size} {room} {shelf}" for bottle, (room, shelf) in (
                (cellar.bottle(number), cellar.place(number)) for number in range(len(cellar)))]
            plan = Plan({number: (0, 20) for number in range(len(cellar))})
            deeds += [f"drink {number} {month} -" for month in MONTHS for number in plan.drunk_in(month)]
            texts = [desk.say("all")]
            for line in deeds:
                desk.say(line)
                texts.append(desk.say("all"))
            self.assert_same((desk.say("count"), texts[-1]), ("0", texts[0]))
            self.assert_same(texts[len(cellar)], str(cellar).replace("\n", " / "))
            for text in reversed(texts[:-1]):
                self.assert_same(desk.say("undo"), "ok")
                self.assert_same(desk.say("all"), text)
            self.assertEqual(outcome(desk.say, "undo"), ("NoDeed", {}))
