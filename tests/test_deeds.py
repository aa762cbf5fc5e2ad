import copy
import inspect
import unittest

import samples
from rowlay.deeds import Laid
from rowlay.errors import BadOrder, BadSpot, BadWeb

DEEDS = [Laid.swap, Laid.move, Laid.turn]
STAR = (4, [(0, 1, 1), (0, 2, 10), (0, 3, 100)])


def swapped_plainly(order, one, other):
    found = list(order)
    found[one], found[other] = found[other], found[one]
    return found


def moved_plainly(order, one, other):
    found = list(order)
    found.insert(other, found.pop(one))
    return found


def turned_plainly(order, one, other):
    low, high = sorted((one, other))
    return [order[low + high - spot] if low <= spot <= high else order[spot] for spot in range(len(order))]


PLAIN = {Laid.swap: swapped_plainly, Laid.move: moved_plainly, Laid.turn: turned_plainly}


def best_plainly(web, order):
    tries = []
    for one in range(len(order)):
        for other in range(one + 1, len(order)):
            tries.append((samples.plain_total(web, swapped_plainly(order, one, other)), one, other))
    if not tries or min(tries)[0] >= samples.plain_total(web, order):
        return None
    return min(tries)[1:]


def bad_spots(places):
    return [-1, -2, -places - 1, places, places + 1, samples.HUGE, -samples.HUGE, True, False]


class Interface(unittest.TestCase):
    def test_arguments_have_their_names(self):
        self.assertEqual(list(inspect.signature(Laid).parameters), ["web", "order"])
        for deed in DEEDS:
            self.assertEqual(list(inspect.signature(deed).parameters), ["self", "one", "other"])
        for tell in (Laid.back, Laid.order, Laid.gaps, Laid.longest, Laid.total, Laid.best_swap):
            self.assertEqual(list(inspect.signature(tell).parameters), ["self"])


class Lays(samples.Refusals):
    def holds(self, laid, web, order):
        lengths = samples.plain_lengths(web, order)
        self.assertEqual(laid.order(), order)
        self.assertEqual(laid.gaps(), samples.plain_gaps(web, order))
        self.assertEqual(laid.longest(), max(lengths + [0]))
        self.assertEqual(laid.total(), samples.plain_total(web, order))
        self.assertEqual(laid.total(), sum(laid.gaps()))


class Told(Lays):
    def test_what_is_told_of_a_row(self):
        for web, order in samples.laid_pairs():
            self.holds(Laid(web, order), web, order)

    def test_kinds_of_what_is_told(self):
        for web, order in (((0, []), []), ((2, [(0, 1, 1)]), [1, 0]), (STAR, [0, 1, 2, 3])):
            laid = Laid(web, order)
            for told in (laid.order(), laid.gaps()):
                self.assertIs(type(told), list)
                self.assertTrue(all(type(number) is int for number in told))
            for told in (laid.longest(), laid.total()):
                self.assertIs(type(told), int)

    def test_what_is_no_web_is_refused_first(self):
        for web in samples.BAD_WEBS:
            for order in ([], [0, 1, 2], [0, 0, 0], [0, 1, 2, 3, 4, 5, 6, 7, 8]):
                self.refused(BadWeb, Laid, web, order)

    def test_what_is_no_order_is_refused(self):
        for web in samples.webs():
            for order in samples.bad_orders(web[0]):
                self.refused(BadOrder, Laid, web, order)


class Deeds(Lays):
    def test_each_deed_by_hand(self):
        web = (5, [])
        for deed, one, other, expected in (
            (Laid.swap, 1, 3, [4, 1, 2, 3, 0]),
            (Laid.swap, 3, 1, [4, 1, 2, 3, 0]),
            (Laid.move, 1, 3, [4, 2, 1, 3, 0]),
            (Laid.move, 3, 1, [4, 1, 3, 2, 0]),
            (Laid.move, 0, 4, [3, 2, 1, 0, 4]),
            (Laid.move, 4, 0, [0, 4, 3, 2, 1]),
            (Laid.turn, 0, 3, [1, 2, 3, 4, 0]),
            (Laid.turn, 3, 0, [1, 2, 3, 4, 0]),
            (Laid.turn, 0, 4, [0, 1, 2, 3, 4]),
        ):
            laid = Laid(web, [4, 3, 2, 1, 0])
            self.assertIsNone(deed(laid, one, other))
            self.assertEqual(laid.order(), expected)

    def test_all_pairs_of_spots_and_back(self):
        for web in samples.webs():
            order = samples.orders(web[0])[-1]
            for deed in DEEDS:
                for one in range(web[0]):
                    for other in range(web[0]):
                        laid = Laid(web, order)
                        self.assertIsNone(deed(laid, one, other))
                        self.holds(laid, web, PLAIN[deed](order, one, other))
                        self.assertIs(laid.back(), True)
                        self.holds(laid, web, order)
                        self.assertIs(laid.back(), False)
                        self.holds(laid, web, order)

    def test_equal_spots_are_a_deed_too(self):
        for deed in DEEDS:
            laid = Laid((3, []), [2, 0, 1])
            laid.swap(0, 1)
            deed(laid, 1, 1)
            self.assertEqual(laid.order(), [0, 2, 1])
            self.assertIs(laid.back(), True)
            self.assertEqual(laid.order(), [0, 2, 1])
            self.assertIs(laid.back(), True)
            self.assertEqual(laid.order(), [2, 0, 1])
            self.assertIs(laid.back(), False)

    def test_back_as_often_as_there_were_deeds_and_once_more(self):
        for web in samples.webs()[7:]:
            places = web[0]
            laid = Laid(web, list(range(places)))
            seen = [laid.order()]
            for at in range(40):
                deed = DEEDS[at % 3]
                one, other = (5 * at + 1) % places, (3 * at + at // 7) % places
                deed(laid, one, other)
                seen.append(PLAIN[deed](seen[-1], one, other))
                self.holds(laid, web, seen[-1])
            while len(seen) > 1:
                seen.pop()
                self.assertIs(laid.back(), True)
                self.holds(laid, web, seen[-1])
            for again in range(2):
                self.assertIs(laid.back(), False)
                self.holds(laid, web, seen[0])

    def test_back_is_no_deed_itself(self):
        laid = Laid((4, []), [0, 1, 2, 3])
        laid.swap(0, 3)
        laid.move(0, 2)
        self.assertIs(laid.back(), True)
        laid.turn(1, 3)
        self.assertEqual(laid.order(), [3, 0, 2, 1])
        self.assertIs(laid.back(), True)
        self.assertEqual(laid.order(), [3, 1, 2, 0])
        self.assertIs(laid.back(), True)
        self.assertEqual(laid.order(), [0, 1, 2, 3])
        self.assertIs(laid.back(), False)


class Spots(Lays):
    def test_spots_that_are_not_there(self):
        for web in samples.webs():
            order = samples.orders(web[0])[-1]
            for deed in DEEDS:
                laid = Laid(web, order)
                for bad in bad_spots(web[0]):
                    for good in range(web[0]):
                        self.refused(BadSpot, deed, laid, bad, good)
                        self.refused(BadSpot, deed, laid, good, bad)
                    self.refused(BadSpot, deed, laid, bad, bad)
                self.holds(laid, web, order)
                self.assertIs(laid.back(), False)

    def test_no_spot_of_no_place(self):
        for deed in DEEDS:
            self.refused(BadSpot, deed, Laid((0, []), []), 0, 0)

    def test_a_refused_deed_is_none_to_take_back(self):
        for deed in DEEDS:
            laid = Laid(STAR, [3, 2, 1, 0])
            laid.move(0, 2)
            for one, other in ((0, 4), (4, 0), (-1, 2), (2, -1), (-4, -4)):
                self.refused(BadSpot, deed, laid, one, other)
                self.holds(laid, STAR, [2, 1, 3, 0])
            self.assertIs(laid.back(), True)
            self.holds(laid, STAR, [3, 2, 1, 0])
            self.assertIs(laid.back(), False)


class BestSwap(Lays):
    def test_the_least_total_wins(self):
        # From 321: (0, 1) makes it 211, (0, 2) 121, (1, 3) 123.
        self.assertEqual(Laid(STAR, [0, 1, 2, 3]).best_swap(), (0, 2))
        # From 123: (1, 3) makes it 121, (2, 3) 112.
        self.assertEqual(Laid(STAR, [1, 2, 3, 0]).best_swap(), (2, 3))

    def test_of_equally_good_ones_the_first(self):
        self.assertEqual(Laid((3, [(0, 2, 1)]), [0, 1, 2]).best_swap(), (0, 1))
        # Here (0, 3) and (1, 2) make the total equally small, and no other pair does.
        web = (4, [(0, 1, 3), (0, 2, 5), (1, 3, 5), (2, 3, 3)])
        self.assertEqual(Laid(web, [0, 1, 2, 3]).total(), 26)
        self.assertEqual(Laid(web, [3, 1, 2, 0]).total(), Laid(web, [0, 2, 1, 3]).total())
        self.assertEqual(Laid(web, [0, 1, 2, 3]).best_swap(), (0, 3))

    def test_none_where_none_makes_it_less(self):
        self.assertIsNone(Laid((0, []), []).best_swap())
        self.assertIsNone(Laid((1, []), [0]).best_swap())
        self.assertIsNone(Laid((2, [(0, 1, 100)]), [0, 1]).best_swap())
        self.assertIsNone(Laid((8, []), [7, 6, 5, 4, 3, 2, 1, 0]).best_swap())
        self.assertIsNone(Laid(samples.full(8, 100), [0, 2, 4, 6, 1, 3, 5, 7]).best_swap())
        self.assertIsNone(Laid((3, [(0, 1, 1), (1, 2, 1)]), [2, 1, 0]).best_swap())

    def test_against_trying_all_pairs(self):
        for web, order in samples.laid_pairs():
            best = Laid(web, order).best_swap()
            self.assertEqual(best, best_plainly(web, order))
            if best is not None:
                self.assertIs(type(best), tuple)
                self.assertEqual([type(spot) for spot in best], [int, int])

    def test_it_is_no_deed_and_changes_nothing(self):
        laid = Laid(STAR, [0, 1, 2, 3])
        laid.best_swap()
        self.holds(laid, STAR, [0, 1, 2, 3])
        self.assertIs(laid.back(), False)

    def test_it_goes_by_the_row_as_it_lies(self):
        laid = Laid(STAR, [0, 1, 2, 3])
        while laid.best_swap() is not None:
            order = laid.order()
            self.assertEqual(laid.best_swap(), best_plainly(STAR, order))
            laid.swap(*laid.best_swap())
            self.assertLess(laid.total(), samples.plain_total(STAR, order))


class Untouched(Lays):
    def test_nothing_handed_in_is_changed(self):
        for web, order in samples.laid_pairs():
            handed = copy.deepcopy((web, order))
            laid = Laid(web, order)
            if web[0] > 0:
                for deed in DEEDS:
                    deed(laid, 0, web[0] - 1)
            laid.best_swap()
            laid.back()
            self.assertEqual((web, order), handed)

    def test_lists_handed_in_are_not_kept(self):
        web = (4, list(STAR[1]))
        order = [0, 1, 2, 3]
        laid = Laid(web, order)
        web[1].pop(0)
        web[1].append((2, 3, 7))
        order.reverse()
        self.holds(laid, STAR, [0, 1, 2, 3])
        self.assertEqual(laid.best_swap(), (0, 2))
        laid.move(0, 1)
        web[1].clear()
        order.clear()
        self.holds(laid, STAR, [1, 0, 2, 3])
        self.assertIs(laid.back(), True)
        self.holds(laid, STAR, [0, 1, 2, 3])

    def test_lists_told_are_new_ones(self):
        laid = Laid(STAR, [0, 1, 2, 3])
        for deed in [None] + DEEDS:
            if deed is not None:
                deed(laid, 0, 2)
            expected = list(laid.order())
            for told in (laid.order(), laid.gaps()):
                told.reverse()
                told.append(0)
                self.holds(laid, STAR, expected)
        while laid.back():
            laid.order().clear()
            laid.gaps().clear()
        self.holds(laid, STAR, [0, 1, 2, 3])

    def test_two_side_by_side_know_nothing_of_one_another(self):
        web = (4, list(STAR[1]))
        order = [0, 1, 2, 3]
        one = Laid(web, order)
        other = Laid(web, order)
        one.swap(0, 3)
        self.holds(other, STAR, [0, 1, 2, 3])
        self.assertIs(other.back(), False)
        other.turn(0, 1)
        other.turn(2, 3)
        self.holds(one, STAR, [3, 1, 2, 0])
        self.assertIs(one.back(), True)
        self.assertIs(one.back(), False)
        self.holds(one, STAR, [0, 1, 2, 3])
        self.holds(other, STAR, [1, 0, 3, 2])
        third = Laid(web, other.order())
        third.swap(0, 1)
        self.holds(other, STAR, [1, 0, 3, 2])


if __name__ == "__main__":
    unittest.main()
