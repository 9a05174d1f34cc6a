"""Lost lists: a list of numbers with gaps, made whole as far as hints settle it."""

from dimcellar.checks import is_number, is_rising, is_whole, is_within
from dimcellar.errors import NoHints, NoList, NoLost, NoWay

MOST_PLACES = 6
MOST_HINTS = 8


def how_many(known, lost, hints):
    """How many ways there are to make the list whole."""
    _check_list_and_hints(known, lost, hints)
    many, _ = _ways(known, lost, hints)
    return many


def settled(known, lost, hints):
    """The list made whole as far as all ways agree, None at the places where they differ."""
    _check_list_and_hints(known, lost, hints)
    many, whole = _ways(known, lost, hints)
    if many == 0:
        raise NoWay()
    return whole


def _check_list_and_hints(known, lost, hints):
    if not _is_list(known):
        raise NoList()
    if not _are_lost(lost, known):
        raise NoLost()
    if not _are_hints(hints, _numbers(known, lost)):
        raise NoHints()


def _is_list(thing):
    if not isinstance(thing, tuple) or not 1 <= len(thing) <= MOST_PLACES:
        return False
    if not all([part is None or is_number(part) for part in thing]):
        return False
    told = _numbers(thing, ())
    return len(set(told)) == len(told)


def _are_lost(thing, known):
    """Is it a rising tuple with a number for each gap, and none that is known?"""
    gaps = known.count(None)
    return is_rising(thing, gaps, gaps) and all([is_number(part) and part not in known for part in thing])


def _are_hints(thing, numbers):
    if not isinstance(thing, list) or len(thing) > MOST_HINTS:
        return False
    return all([_is_hint(part, numbers) for part in thing])


def _is_hint(thing, numbers):
    """Is it a hint of these numbers? There are as many places as numbers."""
    if not isinstance(thing, tuple) or len(thing) != 3:
        return False
    word, number, other = thing
    if not is_whole(number) or number not in numbers:
        return False
    if word in ("at", "not"):
        return is_within(other, 0, len(numbers) - 1)
    return word in ("ahead", "beside") and is_whole(other) and other in numbers and other != number


def _numbers(known, lost):
    """All numbers of the list made whole."""
    return [*[part for part in known if part is not None], *lost]


def _ways(known, lost, hints):
    """How many ways there are, and the number that all have at each place, None where they differ.

    Each number has a bit of its own. The ways are begun at the first place and made longer
    place by place; those that have the same numbers by then are counted together, as what
    may stand behind them is the same.
    """
    bits = {number: 1 << at for at, number in enumerate(_numbers(known, lost))}
    ahead, beside = _ties(hints, bits)
    begun = {(0, 0): (1, 0)}
    for choice in _choices(known, lost, hints, bits):
        begun = _longer(begun, choice, ahead, beside)
    many, seen = 0, 0
    for ways, their_seen in begun.values():
        many, seen = many + ways, seen | their_seen
    return many, _whole(seen, bits)


def _ties(hints, bits):
    """For each number those that must be ahead of it, and those that must be beside it."""
    ahead = {bit: 0 for bit in bits.values()}
    beside = {bit: 0 for bit in bits.values()}
    for word, number, other in hints:
        if word == "ahead":
            ahead[bits[other]] |= bits[number]
        if word == "beside":
            beside[bits[other]] |= bits[number]
            beside[bits[number]] |= bits[other]
    return ahead, beside


def _choices(known, lost, hints, bits):
    """For each place the numbers that may stand there, whatever stands at the others."""
    return [
        [bits[number] for number in (lost if part is None else (part,)) if _may_stand(number, place, hints)]
        for place, part in enumerate(known)]


def _may_stand(number, place, hints):
    for word, hinted, other in hints:
        if word == "at" and (hinted == number) != (other == place):
            return False
        if word == "not" and hinted == number and other == place:
            return False
    return True


def _longer(begun, choice, ahead, beside):
    """The ways made longer by a place: how many there are, and all that is seen at each place of them.

    They are told by the numbers placed and the last one, this one only where others must be
    beside it. Of those that must be beside a number, at most the last one may be placed
    ahead of it; each other one has the same to keep to as it comes.
    """
    longer = {}
    for (placed, last), (many, seen) in begun.items():
        for bit in choice:
            if placed & bit or (ahead[bit] & placed) != ahead[bit] or (beside[bit] & placed) not in (0, last):
                continue
            now = placed | bit, bit if beside[bit] else 0
            others, others_seen = longer.get(now, (0, 0))
            longer[now] = many + others, (seen << MOST_PLACES) | bit | others_seen
    return longer


def _whole(seen, bits):
    """The number at each place where just one was seen; what was seen at the last place stands lowest."""
    numbers = {bit: number for number, bit in bits.items()}
    one_place = (1 << MOST_PLACES) - 1
    return tuple([
        numbers.get((seen >> (MOST_PLACES * behind)) & one_place) for behind in reversed(range(len(bits)))])
