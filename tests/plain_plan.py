"""Plans written as plainly as can be, to hold the program against.

Spans are dicts of numbers with tuples (first, last), a plan is a dict of numbers with months.
"""

MONTHS = range(1000)


def months_planned(spans, rate, months=MONTHS):
    """Month by month the first by (last, number), one after another; some may be left over."""
    left = dict(spans)
    plan = {}
    for month in months:
        for _ in range(rate):
            ready = [(last, number) for number, (first, last) in left.items() if first <= month <= last]
            if ready:
                number = min(ready)[1]
                plan[number] = month
                del left[number]
    return plan


def is_right(spans, rate, plan):
    """Each number in its span, no month above the rate."""
    return (
        sorted(plan) == sorted(spans)
        and all(spans[number][0] <= month <= spans[number][1] for number, month in plan.items())
        and all(sum(other == month for other in plan.values()) <= rate for month in plan.values()))


def has_plan(spans, rate):
    """Whether any months at all make a right plan: tried one number after another, none by a rule."""
    room = {}

    def fits(left):
        if not left:
            return True
        (first, last), *others = left
        for month in range(first, last + 1):
            if room.get(month, 0) < rate:
                room[month] = room.get(month, 0) + 1
                if fits(others):
                    return True
                room[month] -= 1
        return False

    return fits(sorted(spans.values()))


def how_many_within(spans, first, last):
    return sum(first <= begin and end <= last for begin, end in spans.values())


def is_crowded(spans, rate, first, last):
    return first <= last and how_many_within(spans, first, last) > rate * (last - first + 1)


def least_crowd(spans, rate, months=MONTHS):
    """The least of all stretches of these months that are too small, all gone through."""
    for first in months:
        many = 0
        ends = [end for begin, end in spans.values() if begin >= first]
        for last in range(first, months[-1] + 1):
            many += ends.count(last)
            if many > rate * (last - first + 1):
                return first, last, many
    return None


def some_spans(chance, many, months, longest):
    """So many unlike numbers with spans within the months, none longer than told."""
    spans = {}
    for number in chance.sample(range(40), many):
        first = chance.choice(months)
        spans[number] = first, min(first + chance.randrange(longest), months[-1])
    return spans
