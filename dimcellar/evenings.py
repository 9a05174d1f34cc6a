"""An evening: what is brought up from a cellar by wishes, and why."""

from dimcellar.bottles import age_of
from dimcellar.checks import is_maker, is_year
from dimcellar.errors import NoWishes

MOST_WISHES = 6


def evening(cellar, wishes, twins=False):
    """For each wish the number of the bottle that is chosen, and why."""
    if not _are_wishes(wishes):
        raise NoWishes()
    free = _free(cellar)
    told = []
    for wish in wishes:
        could = [(age, number) for age, number in free if _suits(age, wish)]
        if len(could) == 0:
            told.append((None, "none"))
        else:
            told.append((could[0][1], _why(could)))
            free = _left(free, could[0], twins)
    return told


def _are_wishes(thing):
    if not isinstance(thing, list) or len(thing) > MOST_WISHES:
        return False
    return all([_is_wish(part) for part in thing])


def _is_wish(thing):
    if not isinstance(thing, tuple) or len(thing) != 3:
        return False
    maker, least, most = thing
    return (maker is None or is_maker(maker)) and is_year(least) and is_year(most) and least <= most


def _free(cellar):
    """The age and the number of each bottle that lies there and is in no set, the least ahead."""
    return sorted([
        (age_of(cellar.bottle(number)), number) for number in cellar.lying() if cellar.set_of(number) == ()])


def _suits(age, wish):
    year, maker, _ = age
    wished, least, most = wish
    return (wished is None or maker == wished) and least <= year <= most


def _why(could):
    """Why the first of those that could be chosen is; its equals stand straight behind it."""
    if len(could) == 1:
        return "only"
    if could[1][0] == could[0][0]:
        return "first"
    return "eldest"


def _left(free, chosen, twins):
    """What can still be chosen, behind the chosen one."""
    if twins:
        return [one for one in free if one != chosen]
    return [one for one in free if one[0] != chosen[0]]
