"""Webs and orders for the tests, what is none, and plain counts to hold the program against."""

import copy
import unittest
from itertools import combinations, permutations


class Refusals(unittest.TestCase):
    def refused(self, error, call, *handed):
        # A laid row can be handed too, as the first one; what it tells is held by its own tests.
        before = copy.deepcopy([thing for thing in handed if isinstance(thing, (tuple, list))])
        with self.assertRaises(error) as caught:
            call(*handed)
        self.assertIs(type(caught.exception), error)
        self.assertEqual([thing for thing in handed if isinstance(thing, (tuple, list))], before)


def woven(places, salt):
    ties = []
    for one, other in combinations(range(places), 2):
        if (3 * one + 5 * other + salt) % 4 != 0:
            ties.append((one, other, (37 * one + 11 * other + 29 * salt) % 100 + 1))
    return (places, ties)


def full(places, weight):
    return (places, [(one, other, weight) for one, other in combinations(range(places), 2)])


def webs():
    found = []
    for places in range(9):
        found.append((places, []))
        found.append(full(places, 1))
        found.append(full(places, 100))
        for salt in range(4):
            found.append(woven(places, salt))
    return found


def light(places, salt):
    ties = []
    for one, other in combinations(range(places), 2):
        if (one + 2 * other + salt) % 3 != 0:
            ties.append((one, other, (one * other + salt) % 3 + 1))
    return (places, ties)


def small_webs():
    found = [web for web in webs() if web[0] <= 5]
    for places in range(2, 6):
        found += [light(places, salt) for salt in range(3)]
    return found


def every_order(places):
    return [list(order) for order in permutations(range(places))]


def orders(places):
    every = permutations(range(places))
    if places <= 4:
        return [list(order) for order in every]
    step = {5: 7, 6: 61, 7: 509, 8: 4409}[places]
    return [list(order) for at, order in enumerate(every) if at % step == 0]


def laid_pairs():
    return [(web, order) for web in webs() for order in orders(web[0])]


def plain_lengths(web, order):
    return [abs(order.index(one) - order.index(other)) for one, other, weight in web[1]]


def plain_gaps(web, order):
    found = []
    for behind in range(1, web[0]):
        left = order[:behind]
        found.append(sum(w for one, other, w in web[1] if (one in left) != (other in left)))
    return found


def plain_total(web, order):
    return sum(tie[2] * length for tie, length in zip(web[1], plain_lengths(web, order)))


def plain_measured(web, kind, order):
    if kind == "total":
        return plain_total(web, order)
    return max((plain_lengths if kind == "longest" else plain_gaps)(web, order) + [0])


def plain_measures(web, kind):
    return [(plain_measured(web, kind, order), order) for order in every_order(web[0])]


def plain_out(web, places):
    return sum(weight for one, other, weight in web[1] if (one in places) != (other in places))


def number_of(places):
    return sum(2 ** place for place in places)


def places_of(number):
    return [place for place in range(9) if number // 2 ** place % 2 == 1]


KINDS = ["longest", "most", "total"]

HUGE = 10 ** 15 - 1

BAD_WEBS = [
    (-1, []),
    (9, []),
    (-HUGE, []),
    (HUGE, []),
    (True, []),
    (),
    (3,),
    (3, [], []),
    (0, [(0, 0, 1)]),
    (0, [(0, 1, 1)]),
    (1, [(0, 1, 1)]),
    (3, [(0, 3, 1)]),
    (3, [(3, 4, 1)]),
    (3, [(-1, 0, 1)]),
    (3, [(-2, -1, 1)]),
    (3, [(0, HUGE, 1)]),
    (3, [(-HUGE, 0, 1)]),
    (8, [(0, 8, 1)]),
    (3, [(1, 0, 1)]),
    (3, [(0, 1, 1), (2, 1, 1)]),
    (3, [(0, 0, 1)]),
    (3, [(2, 2, 1)]),
    (3, [(0, 1, 0)]),
    (3, [(0, 1, -1)]),
    (3, [(0, 1, 101)]),
    (3, [(0, 1, HUGE)]),
    (3, [(0, 1, -HUGE)]),
    (3, [(0, 1, 5), (1, 2, 101)]),
    (3, [()]),
    (3, [(0,)]),
    (3, [(0, 1)]),
    (3, [(0, 1, 1, 1)]),
    (3, [(0, 1, 1), (1, 2)]),
    (3, [(0, 2, 1), (0, 1, 1)]),
    (3, [(1, 2, 1), (0, 1, 1)]),
    (3, [(1, 2, 1), (0, 2, 1)]),
    (4, [(0, 1, 1), (1, 2, 1), (0, 3, 1)]),
    (3, [(0, 1, 1), (0, 1, 1)]),
    (3, [(0, 1, 1), (0, 1, 2)]),
    (3, [(0, 1, 2), (0, 1, 1)]),
    (3, [(0, 1, 1), (0, 2, 1), (0, 1, 1)]),
    (3, [(False, 1, 1)]),
    (3, [(0, True, 1)]),
    (3, [(0, 1, True)]),
]


def bad_orders(places):
    every = list(range(places))
    found = [every + [places], every + [-1], every + [0], [-1] + every]
    if places > 0:
        found += [[], every[:-1], every[1:], every[:-1] + [places], every[:-1] + [HUGE], [-1] + every[1:]]
    if places > 1:
        found += [every[:-1] + [0], [1] + every[1:], [0] * places, every[1:] + [places]]
        found += [[False, True] + every[2:]]
    return found


BAD_KINDS = ["", "Longest", "longest ", " total", "mos", "gaps", "lengths", "total\n", "0"]
