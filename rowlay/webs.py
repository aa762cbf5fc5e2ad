"""Webs, orders of their places, and what an order measures."""

from rowlay.errors import BadKind, BadOrder, BadWeb

MOST_PLACES = 8
MOST_WEIGHT = 100
KINDS = ("longest", "most", "total")


def is_whole(value):
    # To Python a truth is an int as well, here it is no whole number.
    return isinstance(value, int) and not isinstance(value, bool)


def is_within(value, least, greatest):
    return is_whole(value) and least <= value <= greatest


def is_tie(tie, places):
    if not isinstance(tie, tuple) or len(tie) != 3:
        return False
    if not is_within(tie[1], 0, places - 1):
        return False
    return is_within(tie[0], 0, tie[1] - 1) and is_within(tie[2], 1, MOST_WEIGHT)


def look_ties(places, ties):
    # Less than the places of any tie, so that the first one rises too.
    before = (-1, -1)
    for tie in ties:
        if not is_tie(tie, places):
            raise BadWeb(f"{tie!r} is no tie between {places} places")
        if tie[:2] <= before:
            raise BadWeb(f"{tie!r} does not rise above the tie ahead of it")
        before = tie[:2]


def look_web(web):
    if not isinstance(web, tuple) or len(web) != 2:
        raise BadWeb("a web is a pair of a number and a list")
    if not is_within(web[0], 0, MOST_PLACES):
        raise BadWeb(f"a web has 0 to {MOST_PLACES} places")
    if not isinstance(web[1], list):
        raise BadWeb("the ties of a web are a list")
    look_ties(web[0], web[1])


def look_order(places, order):
    if not isinstance(order, list) or len(order) != places:
        raise BadOrder(f"an order is a list of {places} places")
    met = {}
    for place in order:
        if not is_within(place, 0, places - 1):
            raise BadOrder(f"{place!r} is none of {places} places")
        if place in met:
            raise BadOrder(f"the place {place} stands there twice")
        met[place] = True


def look_both(web, order):
    look_web(web)
    look_order(web[0], order)


def look_kind(kind):
    if kind not in KINDS:
        raise BadKind(f"{kind!r} is none of longest, most and total")


def spots_of(order):
    spots = {}
    for spot, place in enumerate(order):
        spots[place] = spot
    return spots


def lengths(web, order):
    look_both(web, order)
    spots = spots_of(order)
    return [abs(spots[one] - spots[other]) for one, other, weight in web[1]]


def gaps(web, order):
    look_both(web, order)
    spots = spots_of(order)
    over = [0 for gap in range(web[0] - 1)]
    for one, other, weight in web[1]:
        left = min(spots[one], spots[other])
        right = max(spots[one], spots[other])
        for gap in range(left, right):
            over[gap] += weight
    return over


def longest(web, order):
    return max(lengths(web, order), default=0)


def most(web, order):
    return max(gaps(web, order), default=0)


def total(web, order):
    told = lengths(web, order)
    return sum([tie[2] * length for tie, length in zip(web[1], told)])


def measured(web, kind, order):
    look_both(web, order)
    look_kind(kind)
    if kind == "longest":
        return longest(web, order)
    if kind == "most":
        return most(web, order)
    return total(web, order)
