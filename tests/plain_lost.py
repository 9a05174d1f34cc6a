"""Lost lists made whole as plainly as can be, to hold the program against: all ways are gone through."""

import itertools

KINDS = ("at", "not", "ahead", "beside")


def is_so(way, hint):
    kind, number, other = hint
    place = way.index(number)
    if kind == "at":
        return place == other
    if kind == "not":
        return place != other
    if kind == "ahead":
        return other in way[place + 1:]
    return other in way[max(0, place - 1):place + 2]


def all_ways(known, lost, hints):
    ways = []
    for put in itertools.permutations(lost):
        left = list(put)
        way = [left.pop() if number is None else number for number in known]
        if all(is_so(way, hint) for hint in hints):
            ways.append(tuple(way))
    return ways


def settled_by(ways):
    """What all of some ways have at each place; there is one way at least."""
    whole = []
    for place in range(len(ways[0])):
        there = {way[place] for way in ways}
        whole.append(there.pop() if len(there) == 1 else None)
    return tuple(whole)


def some_list(chance, many, gaps):
    """A list of so many places with so many gaps, what is lost, and a way that has been."""
    way = tuple(chance.sample(range(40), many))
    empty = chance.sample(range(many), gaps)
    known = tuple(None if place in empty else way[place] for place in range(many))
    return known, tuple(sorted(way[place] for place in empty)), way


def some_hint(chance, numbers):
    kind = chance.choice(KINDS if len(numbers) > 1 else KINDS[:2])
    number = chance.choice(numbers)
    if kind in ("at", "not"):
        return kind, number, chance.randrange(len(numbers))
    return kind, number, chance.choice([other for other in numbers if other != number])


def some_hints(chance, way, many, truly):
    """So many hints of all kinds, where wanted such that the way keeps to all of them."""
    hints = []
    while len(hints) < many:
        hint = some_hint(chance, way)
        if not truly or is_so(way, hint):
            hints.append(hint)
    return hints
