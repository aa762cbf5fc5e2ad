import copy
import inspect
import unittest
from itertools import permutations

import samples
from rowlay import totals
from rowlay.errors import BadWeb

PATH = (3, [(0, 1, 2), (1, 2, 5)])
# Of the sets {}, 0, 1, 01, 2, 02, 12, 012.
PATH_PRICES = [0, 2, 7, 7, 5, 9, 7, 7]


def plain_price(web, places):
    rows = [[samples.plain_out(web, row[:end]) for end in range(1, len(row) + 1)] for row in permutations(places)]
    return min(sum(row) for row in rows)


def plain_shows(web, bound, paper):
    if len(paper) != 2 ** web[0] or paper[0] != 0 or paper[-1] < bound:
        return False
    for number in range(2 ** web[0]):
        places = samples.places_of(number)
        for more in set(range(web[0])) - set(places):
            greater = places + [more]
            if paper[samples.number_of(greater)] > paper[number] + samples.plain_out(web, greater):
                return False
    return True


class Interface(unittest.TestCase):
    def test_arguments_have_their_names(self):
        self.assertEqual(list(inspect.signature(totals.prices).parameters), ["web"])
        self.assertEqual(list(inspect.signature(totals.least_total).parameters), ["web"])
        self.assertEqual(list(inspect.signature(totals.shows_total).parameters), ["web", "bound", "paper"])

    def test_kinds_of_what_is_told(self):
        for web in samples.webs():
            told = totals.prices(web)
            self.assertIs(type(told), list)
            self.assertTrue(all(type(number) is int for number in told))
            self.assertIs(type(totals.least_total(web)), int)
            self.assertIs(type(totals.shows_total(web, 0, told)), bool)
            self.assertIs(type(totals.shows_total(web, 0, [])), bool)


class Prices(unittest.TestCase):
    def test_a_path_counted_by_hand(self):
        self.assertEqual(totals.prices(PATH), PATH_PRICES)
        self.assertEqual(totals.least_total(PATH), 7)

    def test_no_place_one_place_and_no_tie(self):
        self.assertEqual(totals.prices((0, [])), [0])
        self.assertEqual(totals.prices((1, [])), [0, 0])
        self.assertEqual(totals.prices((3, [])), [0] * 8)
        for places in range(9):
            self.assertEqual(totals.least_total((places, [])), 0)

    def test_against_trying_all_orders(self):
        for web in samples.small_webs():
            expected = [plain_price(web, samples.places_of(number)) for number in range(2 ** web[0])]
            self.assertEqual(totals.prices(web), expected)
            self.assertEqual(totals.least_total(web), min(samples.plain_measures(web, "total"))[0])

    def test_each_by_those_with_a_place_fewer(self):
        for web in samples.webs():
            told = totals.prices(web)
            self.assertEqual(len(told), 2 ** web[0])
            self.assertEqual(told[0], 0)
            self.assertEqual(told[-1], totals.least_total(web))
            for number in range(1, 2 ** web[0]):
                places = samples.places_of(number)
                before = min(told[number - 2 ** place] for place in places)
                self.assertEqual(told[number], before + samples.plain_out(web, places))

    def test_eight_places_with_all_ties(self):
        by_size = [0, 7, 19, 34, 50, 65, 77, 84, 84]
        for weight in (1, 100):
            web = samples.full(8, weight)
            expected = [weight * by_size[len(samples.places_of(number))] for number in range(256)]
            self.assertEqual(totals.prices(web), expected)
            self.assertEqual(totals.least_total(web), 84 * weight)


class Shows(unittest.TestCase):
    def agrees(self, web, bound, paper):
        told = totals.shows_total(web, bound, paper)
        self.assertIs(told, plain_shows(web, bound, paper))
        if told:
            self.assertLessEqual(bound, totals.least_total(web))
        return told

    def test_the_prices_show_the_least_total_and_no_more(self):
        for web in samples.webs():
            prices, least = totals.prices(web), totals.least_total(web)
            for bound in (least, least - 1, 0, -1, -samples.HUGE):
                self.assertIs(totals.shows_total(web, bound, prices), True)
            for bound in (least + 1, least + 1000, samples.HUGE):
                self.assertIs(totals.shows_total(web, bound, prices), False)

    def test_a_number_changed_by_hand(self):
        for number, change, expected in (
            (0, 1, False), (0, -1, False), (1, 1, False), (1, -1, False), (2, 1, False), (2, -1, True),
            (3, 1, False), (3, -1, False), (4, 1, False), (4, -1, False), (5, 1, False), (5, -1, True),
            (6, 1, False), (6, -1, False), (7, 1, False), (7, -1, False),
        ):
            paper = list(PATH_PRICES)
            paper[number] += change
            with self.subTest(paper=paper):
                self.assertIs(totals.shows_total(PATH, 7, paper), expected)

    def test_a_number_changed_by_one_either_way(self):
        seen = set()
        for web in samples.small_webs() + [samples.woven(6, 1), samples.full(6, 1)]:
            prices, least = totals.prices(web), totals.least_total(web)
            for number in range(len(prices)):
                for change in (1, -1):
                    paper = list(prices)
                    paper[number] += change
                    for bound in (least - 1, least, least + 1):
                        seen.add((change, self.agrees(web, bound, paper)))
        self.assertEqual(seen, {(1, False), (-1, True), (-1, False)})

    def test_a_number_left_out_or_put_in(self):
        for web in samples.small_webs():
            prices = totals.prices(web)
            for at in range(len(prices)):
                self.assertIs(totals.shows_total(web, 0, prices[:at] + prices[at + 1:]), False)
            for at in range(len(prices) + 1):
                for number in (0, prices[-1]):
                    self.assertIs(totals.shows_total(web, 0, prices[:at] + [number] + prices[at:]), False)
            self.assertIs(totals.shows_total(web, 0, prices + prices), False)
            self.assertIs(totals.shows_total(web, -5, []), False)

    def test_the_empty_set_has_0(self):
        for web in ((0, []), (2, []), PATH):
            for number in (1, -1, 7, -samples.HUGE, samples.HUGE):
                paper = [number] + totals.prices(web)[1:]
                self.assertIs(totals.shows_total(web, -samples.HUGE, paper), False)

    def test_numbers_below_0(self):
        self.assertIs(totals.shows_total((1, []), -3, [0, -3]), True)
        self.assertIs(totals.shows_total((1, []), -2, [0, -3]), False)
        self.assertIs(totals.shows_total((2, [(0, 1, 4)]), 3, [0, -1, 4, -1]), False)
        self.assertIs(totals.shows_total((2, [(0, 1, 4)]), -1, [0, -1, 4, -1]), True)
        self.assertIs(totals.shows_total((2, [(0, 1, 4)]), -1, [0, -1, 4, 0]), False)
        self.assertIs(totals.shows_total((2, []), -samples.HUGE, [0, 0, 0, -samples.HUGE]), True)

    def test_lists_that_are_not_the_prices(self):
        self.assertIs(totals.shows_total(PATH, 7, [0, 2, 6, 7, 5, 7, 7, 7]), True)
        self.assertIs(totals.shows_total(PATH, 0, [0] * 8), True)
        self.assertIs(totals.shows_total(PATH, 1, [0] * 8), False)
        self.assertIs(totals.shows_total(PATH, 1, [0] * 7 + [1]), False)
        self.assertIs(totals.shows_total((3, []), 0, [0] * 8), True)
        for web in samples.small_webs():
            for other in samples.small_webs():
                if other[0] == web[0]:
                    self.agrees(web, totals.least_total(other), totals.prices(other))

    def test_bounds_of_no_place(self):
        for bound, expected in ((-1, True), (0, True), (1, False)):
            self.assertIs(totals.shows_total((0, []), bound, [0]), expected)

    def test_truths_are_no_numbers(self):
        self.assertIs(totals.shows_total((1, []), 0, [False, 0]), False)
        self.assertIs(totals.shows_total((1, []), 0, [0, False]), False)


class Untouched(unittest.TestCase):
    def test_nothing_handed_in_is_changed(self):
        for web in samples.webs():
            paper = totals.prices(web)
            handed = copy.deepcopy((web, paper))
            totals.prices(web)
            totals.least_total(web)
            for bound in (0, paper[-1], paper[-1] + 1):
                totals.shows_total(web, bound, paper)
            self.assertEqual((web, paper), handed)

    def test_lists_may_be_changed_afterwards(self):
        ties = list(PATH[1])
        told = totals.prices((3, ties))
        self.assertIs(totals.shows_total((3, ties), 7, told), True)
        told.reverse()
        told.append(3)
        self.assertEqual(totals.prices((3, ties)), PATH_PRICES)
        self.assertIs(totals.shows_total((3, ties), 7, told), False)
        told.pop()
        told.reverse()
        self.assertIs(totals.shows_total((3, ties), 7, told), True)
        ties.insert(1, (0, 2, 1))
        self.assertEqual(totals.least_total((3, ties)), 9)
        ties.clear()
        self.assertEqual(totals.prices((3, ties)), [0] * 8)


class Refused(samples.Refusals):
    def test_what_is_no_web_is_refused_first(self):
        for web in samples.BAD_WEBS:
            self.refused(BadWeb, totals.prices, web)
            self.refused(BadWeb, totals.least_total, web)
            for bound in (-1, 0, 5, samples.HUGE):
                for paper in ([], [0], [1, 2], [0] * 8):
                    self.refused(BadWeb, totals.shows_total, web, bound, paper)


if __name__ == "__main__":
    unittest.main()
