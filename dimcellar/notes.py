"""Drinkers' notes, and the order of makers that is nearest to all of them."""

from dimcellar.checks import is_maker
from dimcellar.errors import NoNotes, NoOrder

MOST_NOTES = 6
MOST_MAKERS = 6


def turns_of(notes, order):
    """How often, over all notes, the order has two makers the other way about."""
    _check_notes(notes)
    if not _is_order(order, _makers_of(notes)):
        raise NoOrder()
    return _turns(_ahead(notes), order)


def nearest(notes):
    """The fewest turns, and the least order that has no more."""
    _check_notes(notes)
    makers = _makers_of(notes)
    ahead = _ahead(notes)
    firsts = [(maker, 1 << at, _turns_ahead(maker, makers, ahead)) for at, maker in enumerate(makers)]
    orders = [(0, ())]
    # What is left of a group is a lesser number: so its nearest order is told by then.
    for group in range(1, 1 << len(makers)):
        orders.append(min(_orders_of(group, firsts, orders)))
    return orders[-1]


def floor_of(notes):
    """How many turns each order has at the least, as each two makers are seen by themselves."""
    _check_notes(notes)
    ahead = _ahead(notes)
    return sum([
        min(ahead.get((one, other), 0), ahead.get((other, one), 0))
        for one, other in _pairs(_makers_of(notes))])


def _check_notes(thing):
    if not _are_notes(thing):
        raise NoNotes()


def _are_notes(thing):
    if not isinstance(thing, list) or not 1 <= len(thing) <= MOST_NOTES:
        return False
    return all([_is_note(part) for part in thing]) and len(_makers_of(thing)) <= MOST_MAKERS


def _is_note(thing):
    if not isinstance(thing, tuple) or not 2 <= len(thing) <= MOST_MAKERS:
        return False
    return _are_makers(thing) and len(set(thing)) == len(thing)


def _is_order(thing, makers):
    return isinstance(thing, tuple) and _are_makers(thing) and sorted(thing) == makers


def _are_makers(parts):
    return all([is_maker(part) for part in parts])


def _makers_of(notes):
    """All makers that the notes name, each once, rising."""
    return sorted({maker for note in notes for maker in note})


def _pairs(makers):
    """Each two of the makers, in their order."""
    return [(makers[at], makers[behind]) for behind in range(len(makers)) for at in range(behind)]


def _ahead(notes):
    """How many notes have the one of two makers ahead of the other one."""
    many = {}
    for note in notes:
        for pair in _pairs(note):
            many[pair] = many.get(pair, 0) + 1
    return many


def _turns(ahead, order):
    return sum([ahead.get((behind, first), 0) for first, behind in _pairs(order)])


def _turns_ahead(maker, makers, ahead):
    """How often a maker is turned that stands ahead of a group of others, group by group.

    A group is a number that has a bit for each maker of it.
    """
    turns = [0]
    for other in makers:
        more = ahead.get((other, maker), 0)
        turns = turns + [many + more for many in turns]
    return turns


def _orders_of(group, firsts, orders):
    """The turns and the order of a group, by each maker that may be its first one.

    How often that one is turned doesn't hang on the order behind it: so this is the nearest
    of the others, which is told already.
    """
    told = []
    for maker, bit, turns in firsts:
        if group & bit:
            others = group - bit
            many, order = orders[others]
            told.append((turns[others] + many, (maker, *order)))
    return told
