"""Plans: a month for each bottle within its span, only so many in a month."""

from dimcellar.checks import MONTHS, MOST_NUMBER, is_month, is_number, is_whole, is_within
from dimcellar.errors import Crowded, NoMonth, NoNumber, NoRate, NoSpan, NoSpans, TooMany

MOST_SPANS = 12


class Plan:
    """The month in which each of some bottles is to be drunk."""

    def __init__(self, spans, rate=1):
        _check_spans_and_rate(spans, rate)
        crowded = _least_crowd(spans, rate)
        if crowded is not None:
            first, last, many = crowded
            raise Crowded(first, last, many)
        self._spans = {number: spans[number] for number in spans}
        self._rate = rate
        self._months = _planned(spans, rate)

    def __len__(self):
        return len(self._months)

    def __eq__(self, other):
        return isinstance(other, Plan) and self._months == other._months

    def __str__(self):
        return "\n".join([f"{number}: {self._months[number]}" for number in sorted(self._months)])

    def month(self, number):
        """The month for which a bottle is planned."""
        if not self._has(number):
            raise NoNumber()
        return self._months[number]

    def drunk_in(self, month):
        """The bottles that are planned for a month, rising."""
        if not is_month(month):
            raise NoMonth()
        return sorted([number for number in self._months if self._months[number] == month])

    def holds(self, thing):
        """Is it a dict with a month for each bottle, as its span and the rate allow?"""
        if not isinstance(thing, dict) or len(thing) != len(self._spans):
            return False
        if not all([self._suits(number, thing[number]) for number in thing]):
            return False
        months = list(thing.values())
        return all([months.count(month) <= self._rate for month in months])

    def put(self, number, span):
        """Another plan, with a span put anew or a number more."""
        if not is_number(number):
            raise NoNumber()
        if not _is_span(span):
            raise NoSpan()
        spans = {**self._spans, number: span}
        if len(spans) > MOST_SPANS:
            raise TooMany(len(spans), MOST_SPANS)
        return Plan(spans, self._rate)

    def turned(self, other):
        """The numbers that one of the plans alone plans, or both for unlike months, rising."""
        return [
            number for number in range(MOST_NUMBER + 1)
            if self._months.get(number) != other._months.get(number)]

    def _has(self, number):
        # A truth would be found among the keys, as the number that it equals.
        return is_whole(number) and number in self._spans

    def _suits(self, number, month):
        """Is it a number of the plan, and the month within its span?"""
        if not self._has(number):
            return False
        first, last = self._spans[number]
        return is_within(month, first, last)


def crowd(spans, rate=1):
    """The least stretch within which more spans lie than it has room for, and how many.

    None where there is a plan.
    """
    _check_spans_and_rate(spans, rate)
    return _least_crowd(spans, rate)


def is_crowd(spans, thing, rate=1):
    """Is it a stretch within which more spans lie than it has room for?"""
    _check_spans_and_rate(spans, rate)
    return _is_span(thing) and _is_overfull(spans, thing, rate)


def _check_spans_and_rate(spans, rate):
    if not _are_spans(spans):
        raise NoSpans()
    if not is_within(rate, 1, 4):
        raise NoRate()


def _are_spans(thing):
    if not isinstance(thing, dict) or len(thing) > MOST_SPANS:
        return False
    return all([is_number(number) and _is_span(thing[number]) for number in thing])


def _is_span(thing):
    """Is it a tuple of two months, the first no more than the last? A stretch is one, too."""
    if not isinstance(thing, tuple) or len(thing) != 2:
        return False
    first, last = thing
    return is_month(first) and is_month(last) and first <= last


def _planned(spans, rate):
    """The month of each number, as many as can be planned."""
    months = {}
    for month in range(MONTHS):
        waiting = sorted([
            (spans[number][1], number) for number in spans
            if number not in months and spans[number][0] <= month <= spans[number][1]])
        for _, number in waiting[:rate]:
            months[number] = month
    return months


def _least_crowd(spans, rate):
    """The least stretch that is overfull, and how many spans lie within it, or None.

    Where no span ends with a stretch, a shorter one has as many; and a stretch of more
    months than this has room for all spans: so no other ones need to be looked at.
    """
    longest = (len(spans) - 1) // rate
    stretches = [
        (last - months + 1, last) for _, last in spans.values()
        for months in range(1, longest + 1) if months <= last + 1]
    overfull = [stretch for stretch in stretches if _is_overfull(spans, stretch, rate)]
    if len(overfull) == 0:
        return None
    first, last = min(overfull)
    return first, last, _how_many_within(spans, (first, last))


def _is_overfull(spans, stretch, rate):
    first, last = stretch
    return _how_many_within(spans, stretch) > rate * (last - first + 1)


def _how_many_within(spans, stretch):
    """How many spans lie wholly within the stretch."""
    return len([span for span in spans.values() if stretch[0] <= span[0] and span[1] <= stretch[1]])
