"""What the document promises over the whole program."""

import copy
import unittest

import samples
from rowlay import texts, totals, walks, webs
from rowlay.deeds import Laid
from rowlay.errors import BadWeb

KINDS = samples.KINDS
HANDED_A_WEB = [
    (webs.look_web, ()), (webs.lengths, ([7],)), (webs.gaps, ([7],)), (webs.longest, ([7],)), (webs.most, ([7],)),
    (webs.total, ([7],)), (webs.measured, ("none", [7])), (Laid, ([7],)),
    (totals.prices, ()), (totals.least_total, ()), (totals.shows_total, (-5, [3])),
    (walks.how_many, ("none", -1)), (walks.first, ("none", -1)), (walks.least, ("none",)),
    (walks.paper, ("none", -1)), (walks.shows, ("none", -1, [(-1, 5)])), (texts.written, ()),
]


class Refused(samples.Refusals):
    def test_what_is_no_web_is_refused_ahead_of_all_else(self):
        for web in samples.BAD_WEBS:
            for call, others in HANDED_A_WEB:
                self.refused(BadWeb, call, web, *copy.deepcopy(others))


class Least(unittest.TestCase):
    def test_no_order_measures_less(self):
        for web in samples.webs():
            for kind in KINDS:
                least, first = walks.least(web, kind)
                self.assertEqual(webs.measured(web, kind, first), least)
                for order in samples.orders(web[0]):
                    measured = webs.measured(web, kind, order)
                    self.assertLessEqual(least, measured)
                    if measured == least:
                        self.assertLessEqual(first, order)
                self.assertEqual(walks.first(web, kind, least), first)
                if least > 0:
                    self.assertIsNone(walks.first(web, kind, least - 1))
                    self.assertEqual(walks.how_many(web, kind, least - 1), 0)

    def test_both_ways_to_the_least_total(self):
        for web in samples.webs():
            least = walks.least(web, "total")[0]
            self.assertEqual(totals.least_total(web), least)
            self.assertIs(totals.shows_total(web, least, totals.prices(web)), True)

    def test_the_orders_that_keep_a_bound_are_just_those(self):
        for web in samples.small_webs():
            for kind in KINDS:
                for bound in (0, 1, 2, 3, 4, 7, 20, 100, 500, 1000000):
                    kept = [row for row in samples.every_order(web[0]) if webs.measured(web, kind, row) <= bound]
                    self.assertEqual(walks.how_many(web, kind, bound), len(kept))
                    self.assertEqual(walks.first(web, kind, bound), kept[0] if kept else None)

    def test_papers_show_the_least_and_nothing_shows_more(self):
        for web in samples.webs():
            for kind in KINDS:
                least = walks.least(web, kind)[0]
                paper = walks.paper(web, kind, least)
                self.assertIs(walks.shows(web, kind, least, paper), True)
                self.assertIs(walks.shows(web, kind, least + 1, paper), False)
                self.assertIsNone(walks.paper(web, kind, least + 1))


class Kept(unittest.TestCase):
    def told(self, web, order, paper):
        found = [webs.lengths(web, order), webs.gaps(web, order), totals.prices(web), texts.written(web)]
        found += [totals.shows_total(web, 1, paper), Laid(web, order).order(), texts.read(texts.written(web))]
        for kind in KINDS:
            least = walks.least(web, kind)
            found += [least, walks.how_many(web, kind, 1), walks.first(web, kind, least[0])]
            found += [walks.paper(web, kind, bound) for bound in (0, 1, least[0], least[0] + 1)]
        return found

    def spoil(self, thing):
        if isinstance(thing, (list, tuple)):
            for part in thing:
                self.spoil(part)
        if isinstance(thing, list):
            thing.reverse()
            thing.append(-7)

    def test_lists_handed_in_and_told_may_be_changed_afterwards(self):
        for web in samples.small_webs():
            order = list(range(web[0]))
            paper = totals.prices(web)
            once = self.told(copy.deepcopy(web), list(order), list(paper))
            kept = copy.deepcopy(once)
            handed = (copy.deepcopy(web), list(order), list(paper))
            self.assertEqual(self.told(*handed), kept)
            self.assertEqual(handed, (web, order, paper))
            self.spoil(once)
            self.spoil(handed)
            self.assertEqual(self.told(web, order, paper), kept)


if __name__ == "__main__":
    unittest.main()
