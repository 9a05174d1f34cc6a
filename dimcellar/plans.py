"""Plans: a month for each bottle within its span, only so many in a month."""

from heapq import heappop, heappush

from dimcellar.checks import MOST_NUMBER, is_month, is_number, is_whole, is_within
from dimcellar.errors import Crowded, NoMonth, NoNumber, NoRate, NoSpan, NoSpans, TooMany

MOST_SPANS = 12


class Plan:
    """The month in which each of some bottles is to be drunk."""

    def __init__(self, spans, rate=1):
        _check_spans_and_rate(spans, rate)
        months = _planned(spans, rate)
        if months is None:
            first, last, many = _least_crowd(spans, rate)
            raise Crowded(first, last, many)
        self._spans = {number: spans[number] for number in spans}
        self._rate = rate
        self._months = months

    def __len__(self):
        return len(self._months)

    def __eq__(self, other):
        return isinstance(other, Plan) and self._months == other._months

    def __str__(self):
        return "\n".join([f"{number}: {self._months[number]}" for number in sorted(self._months)])

    def month(self, number):
        """The month for which a bottle is planned."""
        if not self._has(number):
            raise NoNumber()
        return self._months[number]

    def drunk_in(self, month):
        """The bottles that are planned for a month, rising."""
        if not is_month(month):
            raise NoMonth()
        return sorted([number for number in self._months if self._months[number] == month])

    def holds(self, thing):
        """Is it a dict with a month for each bottle, as its span and the rate allow?"""
        if not isinstance(thing, dict) or len(thing) != len(self._spans):
            return False
        if not all([self._suits(number, thing[number]) for number in thing]):
            return False
        months = list(thing.values())
        return all([months.count(month) <= self._rate for month in months])

    def put(self, number, span):
        """Another plan, with a span put anew or a number more."""
        if not is_number(number):
            raise NoNumber()
        if not _is_span(span):
            raise NoSpan()
        spans = {**self._spans, number: span}
        if len(spans) > MOST_SPANS:
            raise TooMany(len(spans), MOST_SPANS)
        return Plan(spans, self._rate)

    def turned(self, other):
        """The numbers that one of the plans alone plans, or both for unlike months, rising."""
        return [
            number for number in range(MOST_NUMBER + 1)
            if self._months.get(number) != other._months.get(number)]

    def _has(self, number):
        # A truth would be found among the keys, as the number that it equals.
        return is_whole(number) and number in self._spans

    def _suits(self, number, month):
        """Is it a number of the plan, and the month within its span?"""
        if not self._has(number):
            return False
        first, last = self._spans[number]
        return is_within(month, first, last)


def crowd(spans, rate=1):
    """The least stretch within which more spans lie than it has room for, and how many.

    None where there is a plan.
    """
    _check_spans_and_rate(spans, rate)
    if _planned(spans, rate) is not None:
        return None
    return _least_crowd(spans, rate)


def is_crowd(spans, thing, rate=1):
    """Is it a stretch within which more spans lie than it has room for?"""
    _check_spans_and_rate(spans, rate)
    return _is_span(thing) and _is_overfull(spans, thing, rate)


def _check_spans_and_rate(spans, rate):
    if not _are_spans(spans):
        raise NoSpans()
    if not is_within(rate, 1, 4):
        raise NoRate()


def _are_spans(thing):
    if not isinstance(thing, dict) or len(thing) > MOST_SPANS:
        return False
    return all([is_number(number) and _is_span(thing[number]) for number in thing])


def _is_span(thing):
    """Is it a tuple of two months, the first no more than the last? A stretch is one, too."""
    if not isinstance(thing, tuple) or len(thing) != 2:
        return False
    first, last = thing
    return is_month(first) and is_month(last) and first <= last


def _planned(spans, rate):
    """The month of each number, None where not all can be planned.

    Months in which none is waiting are leapt over, as there may be a thousand of them.
    """
    coming = sorted([(first, number) for number, (first, _) in spans.items()], reverse=True)
    waiting = []
    months = {}
    month = 0
    while len(coming) > 0 or len(waiting) > 0:
        if len(waiting) == 0:
            month = max(month, coming[-1][0])
        while len(coming) > 0 and coming[-1][0] <= month:
            _, number = coming.pop()
            heappush(waiting, (spans[number][1], number))
        for _ in range(min(rate, len(waiting))):
            last, number = heappop(waiting)
            if last < month:
                return None
            months[number] = month
        month += 1
    return months


def _least_crowd(spans, rate):
    """The least stretch that is overfull, and how many spans lie within it; there must be one.

    It ends where a span ends, as else a shorter one has as many. The spans up to each end are
    gone through from the one that begins last: those so far overfill at most as many months
    as the others fill, and the longest such stretch is overfull if they all lie within it.
    """
    begun_last = sorted(list(spans.values()), reverse=True)
    stretches = []
    for last in sorted({end for _, end in begun_last}):
        others = 0
        for begin, end in begun_last:
            if end <= last:
                first = max(0, last + 1 - others // rate)
                if first <= begin:
                    stretches.append((first, last))
                others += 1
    first, last = min(stretches)
    return first, last, _how_many_within(spans, (first, last))


def _is_overfull(spans, stretch, rate):
    first, last = stretch
    return _how_many_within(spans, stretch) > rate * (last - first + 1)


def _how_many_within(spans, stretch):
    """How many spans lie wholly within the stretch."""
    return len([span for span in spans.values() if stretch[0] <= span[0] and span[1] <= stretch[1]])
