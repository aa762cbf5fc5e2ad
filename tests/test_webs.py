import copy
import inspect
import unittest

import samples
from rowlay import webs
from rowlay.errors import BadKind, BadOrder, BadWeb

MEASURES = [webs.lengths, webs.gaps, webs.longest, webs.most, webs.total]
KINDS = samples.KINDS
SQUARE = (4, [(0, 1, 3), (0, 3, 2), (1, 2, 5), (2, 3, 1)])


class Interface(unittest.TestCase):
    def test_arguments_have_their_names(self):
        names = {webs.look_web: ["web"], webs.measured: ["web", "kind", "order"]}
        for measure in MEASURES:
            names[measure] = ["web", "order"]
        for function, expected in names.items():
            self.assertEqual(list(inspect.signature(function).parameters), expected)


class Measures(unittest.TestCase):
    def test_a_square_counted_by_hand(self):
        order = [2, 0, 3, 1]
        self.assertEqual(webs.lengths(SQUARE, order), [2, 1, 3, 2])
        self.assertEqual(webs.gaps(SQUARE, order), [6, 11, 8])
        self.assertEqual(webs.longest(SQUARE, order), 3)
        self.assertEqual(webs.most(SQUARE, order), 11)
        self.assertEqual(webs.total(SQUARE, order), 25)

    def test_longest_heeds_no_weight(self):
        web = (4, [(0, 1, 100), (0, 2, 1), (1, 2, 50)])
        self.assertEqual(webs.longest(web, [0, 1, 3, 2]), 3)
        self.assertEqual(webs.lengths(web, [0, 1, 3, 2]), [1, 3, 2])
        self.assertEqual(webs.most(web, [0, 1, 3, 2]), 101)

    def test_no_place_and_one_place(self):
        for web, order in (((0, []), []), ((1, []), [0])):
            self.assertIsNone(webs.look_web(web))
            self.assertEqual(webs.lengths(web, order), [])
            self.assertEqual(webs.gaps(web, order), [])
            for kind in KINDS:
                self.assertEqual(webs.measured(web, kind, order), 0)

    def test_no_tie(self):
        self.assertEqual(webs.lengths((3, []), [1, 2, 0]), [])
        self.assertEqual(webs.gaps((3, []), [1, 2, 0]), [0, 0])
        for kind in KINDS:
            self.assertEqual(webs.measured((3, []), kind, [1, 2, 0]), 0)

    def test_eight_places_with_all_ties(self):
        order = [5, 0, 7, 2, 1, 6, 3, 4]
        for weight in (1, 100):
            web = samples.full(8, weight)
            self.assertEqual(webs.gaps(web, order), [weight * n for n in (7, 12, 15, 16, 15, 12, 7)])
            self.assertEqual(webs.longest(web, order), 7)
            self.assertEqual(webs.most(web, order), 16 * weight)
            self.assertEqual(webs.total(web, order), 84 * weight)

    def test_all_samples_against_plain_counts(self):
        for web, order in samples.laid_pairs():
            self.assertIsNone(webs.look_web(web))
            lengths = samples.plain_lengths(web, order)
            gaps = samples.plain_gaps(web, order)
            self.assertEqual(webs.lengths(web, order), lengths)
            self.assertEqual(webs.gaps(web, order), gaps)
            self.assertEqual(webs.longest(web, order), max(lengths + [0]))
            self.assertEqual(webs.most(web, order), max(gaps + [0]))
            self.assertEqual(webs.total(web, order), samples.plain_total(web, order))

    def test_the_total_is_what_lies_over_all_gaps(self):
        for web, order in samples.laid_pairs():
            self.assertEqual(webs.total(web, order), sum(webs.gaps(web, order)))

    def test_measured_by_each_kind(self):
        for web, order in samples.laid_pairs():
            self.assertEqual(webs.measured(web, "longest", order), max(samples.plain_lengths(web, order) + [0]))
            self.assertEqual(webs.measured(web, "most", order), max(samples.plain_gaps(web, order) + [0]))
            self.assertEqual(webs.measured(web, "total", order), samples.plain_total(web, order))

    def test_kinds_of_what_is_told(self):
        for web, order in (((0, []), []), ((2, [(0, 1, 1)]), [1, 0]), (SQUARE, [3, 1, 2, 0])):
            for measure in (webs.lengths, webs.gaps):
                self.assertIs(type(measure(web, order)), list)
                self.assertTrue(all(type(number) is int for number in measure(web, order)))
            for measure in (webs.longest, webs.most, webs.total):
                self.assertIs(type(measure(web, order)), int)
            for kind in KINDS:
                self.assertIs(type(webs.measured(web, kind, order)), int)


class Untouched(unittest.TestCase):
    def test_nothing_handed_in_is_changed(self):
        for web, order in samples.laid_pairs():
            handed = copy.deepcopy((web, order))
            webs.look_web(web)
            for measure in MEASURES:
                measure(web, order)
            for kind in KINDS:
                webs.measured(web, kind, order)
            self.assertEqual((web, order), handed)

    def test_lists_told_are_new_ones(self):
        order = [2, 0, 3, 1]
        for measure in (webs.lengths, webs.gaps):
            once = measure(SQUARE, order)
            expected = list(once)
            once.append(99)
            once[0] = -1
            self.assertEqual(measure(SQUARE, order), expected)

    def test_a_web_is_looked_at_anew_each_time(self):
        ties = [(0, 1, 1)]
        order = [0, 1, 2]
        self.assertEqual(webs.total((3, ties), order), 1)
        ties.append((0, 2, 10))
        self.assertEqual(webs.total((3, ties), order), 21)
        order.reverse()
        order[0], order[1] = order[1], order[0]
        self.assertEqual(webs.total((3, ties), order), 12)
        ties.append((0, 1, 1))
        self.assertRaises(BadWeb, webs.total, (3, ties), order)


class Refused(samples.Refusals):
    def test_the_bounds_themselves_are_webs(self):
        for web in ((0, []), (8, []), (8, [(0, 7, 1), (6, 7, 100)]), (2, [(0, 1, 100)]), (3, [(0, 2, 1), (1, 2, 1)])):
            self.assertIsNone(webs.look_web(web))

    def test_what_is_no_web(self):
        for web in samples.BAD_WEBS:
            with self.subTest(web=web):
                self.refused(BadWeb, webs.look_web, web)

    def test_no_web_is_refused_ahead_of_all_else(self):
        for web in samples.BAD_WEBS:
            for order in ([], [0, 1, 2], [0, 0, 0], [0, 1, 2, 3, 4, 5, 6, 7, 8], [-1]):
                for measure in MEASURES:
                    self.refused(BadWeb, measure, web, order)
                for kind in KINDS + ["none"]:
                    self.refused(BadWeb, webs.measured, web, kind, order)

    def test_what_is_no_order(self):
        for web in samples.webs():
            for order in samples.bad_orders(web[0]):
                for measure in MEASURES:
                    self.refused(BadOrder, measure, web, order)
                for kind in KINDS:
                    self.refused(BadOrder, webs.measured, web, kind, order)

    def test_no_order_is_refused_ahead_of_the_kind(self):
        for web in samples.webs():
            for order in samples.bad_orders(web[0]):
                self.refused(BadOrder, webs.measured, web, "none", order)

    def test_what_is_no_kind(self):
        for web in samples.webs():
            for kind in samples.BAD_KINDS:
                self.refused(BadKind, webs.measured, web, kind, list(range(web[0])))


if __name__ == "__main__":
    unittest.main()
