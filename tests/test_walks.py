import copy
import inspect
import unittest

import samples
from rowlay import walks
from rowlay.errors import BadKind, BadWeb

KINDS = samples.KINDS
GREATEST = 1000000
BOUND_ERRORS = [-1, GREATEST + 1, -samples.HUGE, samples.HUGE, True, False]
STAR = (4, [(0, 1, 1), (0, 2, 10), (0, 3, 100)])
PATH = (8, [(place, place + 1, 1) for place in range(7)])
PAIRS = (4, [(0, 1, 1), (2, 3, 1)])
# By "longest", the bound 2: no order of STAR has all ties of the length 1.
STAR_PAPER = [(0, ()), (1, (0,)), (2, (1,)), (3, (0,)), (4, (2,)), (5, (0,)), (8, (3,)), (9, (0,))]


def comes_to(web, bound, kind, row):
    """What a beginning comes to that was laid as far as its last place; None if that one may not come."""
    out = [samples.plain_out(web, row[:end]) for end in range(1, len(row) + 1)]
    if kind == "most":
        return () if out[-1] <= bound else None
    if kind == "total":
        return sum(out) if sum(out) <= bound else None
    if bound >= web[0] - 1:
        return ()
    tied = [set(tie[:2]) for tie in web[1]]
    for spot, place in enumerate(row):
        if {place, row[-1]} in tied and len(row) - 1 - spot > bound:
            return None
    if len(row) > bound:
        falling = row[len(row) - 1 - bound]
        if any({falling, place} in tied for place in set(range(web[0])) - set(row)):
            return None
    return tuple(row[max(0, len(row) - bound):])


def laid_plainly(web, kind, bound):
    """All pairs to which one comes, by laying each beginning by itself."""
    found = {(0, 0 if kind == "total" else ())}
    rows = [[]]
    while rows:
        row = rows.pop()
        for place in set(range(web[0])) - set(row):
            matters = comes_to(web, bound, kind, row + [place])
            if matters is not None:
                rows.append(row + [place])
                found.add((samples.number_of(row + [place]), matters))
    return found


def goes_on(web, kind, bound, pair, place):
    """The pair to which one comes by a place more, of whatever pair; None if it may not come."""
    laid, matters = set(samples.places_of(pair[0])), pair[1]
    greater = laid | {place}
    tied = [set(tie[:2]) for tie in web[1]]
    if kind == "most":
        then = () if samples.plain_out(web, greater) <= bound else None
    elif kind == "total":
        then = matters + samples.plain_out(web, greater)
        then = then if then <= bound else None
    elif bound >= web[0] - 1:
        then = ()
    else:
        then = list(matters) + [place]
        if any({place, other} in tied for other in laid - set(matters)):
            return None
        if len(then) > bound:
            if any({then[0], other} in tied for other in set(range(web[0])) - greater):
                return None
            then.pop(0)
        then = tuple(then)
    return None if then is None else (samples.number_of(greater), then)


def fits(web, kind, pair):
    if not 0 <= pair[0] < 2 ** web[0] - 1:
        return False
    if kind == "total":
        return type(pair[1]) is int
    if kind == "most":
        return pair[1] == ()
    return type(pair[1]) is tuple and set(pair[1]) <= set(samples.places_of(pair[0]))


def shows_plainly(web, kind, bound, some):
    if bound == 0:
        return True
    if not all(fits(web, kind, pair) for pair in some) or (0, 0 if kind == "total" else ()) not in some:
        return False
    for pair in some:
        for place in set(range(web[0])) - set(samples.places_of(pair[0])):
            then = goes_on(web, kind, bound - 1, pair, place)
            if then is not None and then not in some:
                return False
    return True


def bounds_around(least, greatest):
    near = [least + step for step in (-2, -1, 0, 1, 2, 3)] + [greatest - 1, greatest, greatest + 1]
    return sorted({bound for bound in near + [0, 1, 2, (least + greatest) // 2, GREATEST] if bound >= 0})


def papers():
    for web in samples.small_webs():
        for kind in KINDS:
            least = walks.least(web, kind)[0]
            for bound in sorted({1, least // 2, least - 1, least} - {0, -1}):
                if bound <= least:
                    yield web, kind, bound, walks.paper(web, kind, bound)


class Interface(unittest.TestCase):
    def test_arguments_have_their_names(self):
        asked = ["web", "kind", "bound"]
        for function, expected in (
            (walks.how_many, asked), (walks.first, asked), (walks.least, ["web", "kind"]),
            (walks.paper, asked), (walks.shows, asked + ["some"]),
        ):
            self.assertEqual(list(inspect.signature(function).parameters), expected)

    def test_kinds_of_what_is_told(self):
        for web in ((0, []), (1, []), (2, []), STAR):
            for kind in KINDS:
                self.assertIs(type(walks.how_many(web, kind, GREATEST)), int)
                self.assertIs(type(walks.how_many(web, kind, 0)), int)
                self.assertIs(type(walks.first(web, kind, GREATEST)), list)
                told = walks.least(web, kind)
                self.assertIs(type(told), tuple)
                self.assertEqual([type(part) for part in told], [int, list])
                self.assertTrue(all(type(place) is int for place in told[1]))
                for pair in walks.paper(web, kind, told[0]):
                    self.assertIs(type(pair), tuple)
                    self.assertIs(type(pair[0]), int)
                    self.assertIs(type(pair[1]), int if kind == "total" else tuple)
                for some in ([], [(0, ())]):
                    self.assertIs(type(walks.shows(web, kind, 0, some)), bool)
                    self.assertIs(type(walks.shows(web, kind, 1, some)), bool)


class Bounds(unittest.TestCase):
    def holds(self, web, kind, measures, bound):
        kept = [order for number, order in measures if number <= bound]
        with self.subTest(web=web, kind=kind, bound=bound):
            self.assertEqual(walks.how_many(web, kind, bound), len(kept))
            self.assertEqual(walks.first(web, kind, bound), min(kept, default=None))

    def test_against_trying_all_orders(self):
        for web in samples.small_webs() + [samples.woven(6, 2), samples.light(6, 1)]:
            for kind in KINDS:
                measures = samples.plain_measures(web, kind)
                self.assertEqual(walks.least(web, kind), min(measures))
                for bound in bounds_around(min(measures)[0], max(measures)[0]):
                    self.holds(web, kind, measures, bound)

    def test_eight_places_against_trying_all_orders(self):
        web = samples.light(8, 0)
        for kind in KINDS:
            measures = samples.plain_measures(web, kind)
            least = min(measures)
            self.assertEqual(walks.least(web, kind), least)
            for bound in (0, least[0] - 1, least[0], least[0] + 1, max(measures)[0] - 1, GREATEST):
                self.holds(web, kind, measures, bound)

    def test_no_place_one_place_and_no_tie(self):
        for places, count in ((0, 1), (1, 1), (2, 2), (5, 120), (8, 40320)):
            for kind in KINDS:
                for bound in (0, 1, places, GREATEST):
                    self.assertEqual(walks.how_many((places, []), kind, bound), count)
                    self.assertEqual(walks.first((places, []), kind, bound), list(range(places)))
                self.assertEqual(walks.least((places, []), kind), (0, list(range(places))))

    def test_eight_places_in_a_path(self):
        for kind, least in (("longest", 1), ("most", 1), ("total", 7)):
            self.assertEqual(walks.least(PATH, kind), (least, list(range(8))))
            self.assertEqual(walks.how_many(PATH, kind, least), 2)
            self.assertEqual(walks.how_many(PATH, kind, least - 1), 0)
            self.assertIsNone(walks.first(PATH, kind, least - 1))

    def test_eight_places_with_all_ties(self):
        for weight in (1, 100):
            web = samples.full(8, weight)
            for kind, least in (("longest", 7), ("most", 16 * weight), ("total", 84 * weight)):
                self.assertEqual(walks.least(web, kind), (least, list(range(8))))
                self.assertEqual(walks.how_many(web, kind, least), 40320)
                self.assertEqual(walks.how_many(web, kind, least - 1), 0)
                self.assertEqual(walks.first(web, kind, least), list(range(8)))
                self.assertIsNone(walks.first(web, kind, least - 1))

    def test_a_star_by_hand(self):
        self.assertEqual(walks.least(STAR, "longest"), (2, [1, 0, 2, 3]))
        self.assertEqual(walks.how_many(STAR, "longest", 2), 12)
        self.assertEqual(walks.least(STAR, "most"), (100, [1, 2, 0, 3]))
        self.assertEqual(walks.how_many(STAR, "most", 100), 4)
        self.assertEqual(walks.least(STAR, "total"), (112, [1, 2, 0, 3]))
        self.assertEqual(walks.how_many(STAR, "total", 112), 4)


class Refused(samples.Refusals):
    def asked(self):
        return (walks.how_many, ()), (walks.first, ()), (walks.paper, ()), (walks.shows, ([],))

    def test_what_is_no_kind(self):
        for web in ((0, []), (1, []), STAR, samples.full(8, 1)):
            for kind in samples.BAD_KINDS:
                self.refused(BadKind, walks.least, web, kind)
                for call, more in self.asked():
                    for bound in [0, 1, GREATEST] + BOUND_ERRORS:
                        self.refused(BadKind, call, web, kind, bound, *more)

    def test_bounds_beyond(self):
        for web in ((0, []), (1, []), STAR, samples.full(8, 1)):
            for kind in KINDS:
                for call, more in self.asked():
                    for bound in BOUND_ERRORS:
                        self.refused(BadKind, call, web, kind, bound, *more)

    def test_the_greatest_bound_is_one(self):
        for web in ((0, []), (1, []), STAR):
            for kind in KINDS:
                self.assertEqual(walks.first(web, kind, GREATEST), list(range(web[0])))
                self.assertIsNone(walks.paper(web, kind, GREATEST))
                self.assertIs(walks.shows(web, kind, GREATEST, []), False)

    def test_what_is_no_web_is_refused_first(self):
        for web in samples.BAD_WEBS:
            for kind in ("total", "longest", "none"):
                self.refused(BadWeb, walks.least, web, kind)
                for bound in (0, 2, -1, GREATEST + 1):
                    for call, more in self.asked():
                        self.refused(BadWeb, call, web, kind, bound, *more)
                    self.refused(BadWeb, walks.shows, web, kind, bound, [(-1, (9, 9))])


class Beginnings(unittest.TestCase):
    def test_each_against_a_plain_laying(self):
        for web in samples.small_webs():
            for kind in KINDS:
                for bound in (0, 1, 2, 3, 4, 5, 6, 50, 1000):
                    found = [pair for layer in walks.layers(walks.Walk(web, kind, bound)) for pair in layer]
                    self.assertEqual(sorted(found), sorted(laid_plainly(web, kind, bound)))

    def test_the_longest_around_one_less_than_the_places(self):
        walk = walks.Walk((3, []), "longest", 1)
        self.assertEqual(walk.steps((1, (0,))), [(1, (3, (1,))), (2, (5, (2,)))])
        for bound in (2, 3, 1000000):
            walk = walks.Walk(samples.full(3, 1), "longest", bound)
            self.assertEqual(walk.steps((0, ())), [(0, (1, ())), (1, (2, ())), (2, (4, ()))])
            self.assertEqual(walk.steps((1, ())), [(1, (3, ())), (2, (5, ()))])


class Papers(unittest.TestCase):
    def test_by_hand(self):
        self.assertEqual(walks.paper(STAR, "longest", 2), STAR_PAPER)
        self.assertEqual(walks.paper(STAR, "longest", 1), [(0, ())])
        self.assertIsNone(walks.paper(STAR, "longest", 3))
        # 1 may come first, then 2; without 0 no other place may come.
        self.assertEqual(walks.paper(STAR, "most", 100), [(0, ()), (2, ()), (4, ()), (6, ())])
        self.assertEqual(walks.paper(STAR, "total", 13), [(0, 0), (2, 1), (4, 10), (6, 12)])
        self.assertEqual(walks.paper(STAR, "total", 12), [(0, 0), (2, 1), (4, 10)])
        self.assertEqual(walks.paper(PAIRS, "longest", 1), [(0, ())])
        self.assertIsNone(walks.paper(PAIRS, "longest", 2))

    def test_of_the_bound_0_the_empty_list(self):
        for web in samples.webs():
            for kind in KINDS:
                self.assertEqual(walks.paper(web, kind, 0), [])

    def test_each_against_a_plain_laying(self):
        for web in samples.small_webs():
            for kind in KINDS:
                least = min(samples.plain_measures(web, kind))[0]
                for bound in range(least + 2):
                    told = walks.paper(web, kind, bound)
                    with self.subTest(web=web, kind=kind, bound=bound):
                        if bound > least:
                            self.assertIsNone(told)
                        elif bound > 0:
                            self.assertEqual(told, sorted(laid_plainly(web, kind, bound - 1)))

    def test_greater_webs_against_a_plain_laying(self):
        for web in (samples.light(6, 0), samples.light(7, 2), samples.full(6, 1), PATH):
            for kind in KINDS:
                least = walks.least(web, kind)[0]
                for bound in (1, least // 2 + 1, least):
                    told = walks.paper(web, kind, bound)
                    self.assertEqual(told, sorted(laid_plainly(web, kind, bound - 1)))
                    self.assertIs(walks.shows(web, kind, bound, told), True)
                self.assertIsNone(walks.paper(web, kind, least + 1))

    def test_rising_and_each_once(self):
        for web, kind, bound, told in papers():
            self.assertTrue(all(one < other for one, other in zip(told, told[1:])))

    def test_no_place_and_one_place(self):
        for web in ((0, []), (1, [])):
            for kind in KINDS:
                for bound in (1, 2, GREATEST):
                    self.assertIsNone(walks.paper(web, kind, bound))


class Shows(unittest.TestCase):
    def agrees(self, web, kind, bound, some):
        told = walks.shows(web, kind, bound, some)
        with self.subTest(web=web, kind=kind, bound=bound, some=some):
            self.assertIs(told, shows_plainly(web, kind, bound, some))
        if told:
            self.assertLessEqual(bound, walks.least(web, kind)[0])
        return told

    def test_the_paper_itself(self):
        for web, kind, bound, told in papers():
            self.assertIs(walks.shows(web, kind, bound, told), True)
            self.assertIs(walks.shows(web, kind, bound, told[::-1]), True)
            self.assertIs(walks.shows(web, kind, bound, told + told[:2]), True)
            self.assertIs(walks.shows(web, kind, bound, told[-1:] + told), True)

    def test_a_pair_left_out(self):
        for web, kind, bound, told in papers():
            for at in range(min(len(told), 30)):
                self.assertIs(walks.shows(web, kind, bound, told[:at] + told[at + 1:]), False)

    def test_the_empty_list(self):
        for web in samples.small_webs():
            for kind in KINDS:
                self.assertIs(walks.shows(web, kind, 0, []), True)
                self.assertIs(walks.shows(web, kind, 1, []), False)

    def test_the_bound_0_by_whatever_list(self):
        for web in ((0, []), (1, []), STAR, samples.full(8, 1)):
            for kind in KINDS:
                for some in ([], [(0, ())], [(-1, 5)], [(2 ** web[0] - 1, ())], [(0, (9, 9))], [(samples.HUGE, ())]):
                    self.assertIs(walks.shows(web, kind, 0, some), True)

    def test_papers_of_other_bounds_kinds_and_webs(self):
        for web in samples.small_webs()[-20:]:
            for kind in KINDS:
                least = walks.least(web, kind)[0]
                for bound in range(max(1, least - 3), least + 3):
                    for other in (least, least - 1):
                        for sort in KINDS:
                            some = walks.paper(web, sort, max(0, min(other, walks.least(web, sort)[0])))
                            self.agrees(web, kind, bound, some)

    def test_a_pair_put_in(self):
        seen = set()
        for web in (STAR, PAIRS, samples.light(4, 0), samples.light(4, 2), samples.light(5, 1)):
            for kind in KINDS:
                least = walks.least(web, kind)[0]
                told = walks.paper(web, kind, least)
                for some in range(-1, 2 ** web[0] + 1):
                    for matters in ((), (0,), (1, 0), (2, 3, 1), (3, 3), (9,), (-1,), 0, 1, -5, least - 1, least):
                        seen.add((kind, self.agrees(web, kind, least, told + [(some, matters)])))
        self.assertEqual(len(seen), 6)

    def test_a_pair_that_no_laying_comes_to(self):
        # Behind 1 and 2, with 2 as the last: 1 is too far away for 0, and 3 would part 2 from 0.
        self.assertIs(walks.shows(STAR, "longest", 2, STAR_PAPER + [(6, (2,))]), True)
        # Behind 0 the ties from it to 1 and 2 weigh 11 if 3 comes, and more if another one comes.
        some = [(0, ()), (2, ()), (4, ())]
        self.assertIs(walks.shows(STAR, "most", 11, some + [(1, ())]), True)
        self.assertIs(walks.shows(STAR, "most", 12, some + [(6, ())]), True)
        self.assertIs(walks.shows(STAR, "most", 12, some + [(6, ()), (1, ())]), False)
        some = [(0, 0), (2, 1), (4, 10), (6, 12)]
        self.assertIs(walks.shows(STAR, "total", 13, some + [(2, 2)]), True)
        self.assertIs(walks.shows(STAR, "total", 13, some + [(2, 0)]), False)
        self.assertIs(walks.shows(STAR, "total", 13, some + [(2, 0), (6, 11)]), True)
        self.assertIs(walks.shows(STAR, "total", 13, some + [(2, samples.HUGE)]), True)
        self.assertIs(walks.shows(STAR, "total", 13, some + [(2, -samples.HUGE)]), False)

    def test_the_set_of_all(self):
        for web, kind, bound, told in papers():
            for matters in ((), (0,), 0, bound):
                self.assertIs(walks.shows(web, kind, bound, told + [(2 ** web[0] - 1, matters)]), False)

    def test_sets_that_are_not_there(self):
        for web, kind, bound, told in papers():
            for some in (-1, -2, 2 ** web[0], 2 ** web[0] + 1, 256, samples.HUGE, -samples.HUGE):
                for matters in ((), GREATEST):
                    self.assertIs(walks.shows(web, kind, bound, told + [(some, matters)]), False)

    def test_places_that_are_not_in_the_set(self):
        for tail in ((0,), (3,), (1, 0), (0, 1), (4,), (8,), (-1,), (samples.HUGE,), (1, -samples.HUGE)):
            self.assertIs(walks.shows(STAR, "longest", 2, STAR_PAPER + [(6, tail)]), False)
        self.assertIs(walks.shows(STAR, "longest", 2, STAR_PAPER + [(0, (0,))]), False)

    def test_what_matters_by_another_kind(self):
        for web, kind, bound, told in papers():
            others = [(), (0,)] if kind == "total" else [0, 1, bound, -1]
            for matters in others + ([(0,), (0, 1)] if kind == "most" else []):
                for some in range(1, min(2 ** web[0] - 1, 6)):
                    self.assertIs(walks.shows(web, kind, bound, told + [(some, matters)]), False)
                self.assertIs(walks.shows(web, kind, bound, [(0, matters)] + told), False)

    def test_tuples_that_are_too_long_or_have_a_place_twice(self):
        # Ties of the length 1 alone: 0 may come behind 1 and 2, if both are told to be the last places;
        # then 1 falls away, so that (7, (2, 0)) must be there; behind that 3 may come, to the set of all.
        self.assertIs(walks.shows(STAR, "longest", 2, STAR_PAPER + [(6, (1, 2))]), False)
        self.assertIs(walks.shows(STAR, "longest", 2, STAR_PAPER + [(6, (1, 2)), (7, (2, 0))]), False)
        # Here 1 is too far away for 0.
        self.assertIs(walks.shows(STAR, "longest", 2, STAR_PAPER + [(6, (2, 2))]), True)
        # Here 0 itself would fall away, and is tied to 3.
        self.assertIs(walks.shows(STAR, "longest", 2, STAR_PAPER + [(5, (0, 2))]), True)
        self.assertIs(walks.shows(STAR, "longest", 2, STAR_PAPER + [(5, (0, 0, 2, 2, 2))]), True)
        # Here 2 falls away, but 0 and 0 stay: 1 or 3 may come.
        self.assertIs(walks.shows(STAR, "longest", 2, STAR_PAPER + [(5, (2, 0, 0))]), False)
        # One goes on to the too long (7, (0, 0, 1)) and (13, (0, 0, 3)), behind which 0 would have to fall away.
        # That it may, behind the last place: so one comes to the set of all.
        some = STAR_PAPER + [(5, (2, 0, 0)), (7, (0, 0, 1)), (13, (0, 0, 3))]
        self.assertIs(walks.shows(STAR, "longest", 2, some), False)

    def test_only_one_place_falls_away(self):
        # All are tied to 5. The tuple stays too long until 5 would have to fall away, which it may not.
        web = (6, [(place, 5, 1) for place in range(5)])
        told = walks.paper(web, "longest", 2)
        longer = [(3, (0, 1)), (35, (1, 5)), (39, (5, 2)), (43, (5, 3)), (51, (5, 4))]
        self.assertIs(walks.shows(web, "longest", 2, told + longer), True)
        for at in range(1, len(longer)):
            self.assertIs(walks.shows(web, "longest", 2, told + longer[:at] + longer[at + 1:]), False)
        self.assertIs(walks.shows(web, "longest", 2, told + [(3, (0, 1)), (35, (5,))]), False)

    def test_the_longest_around_one_less_than_the_places(self):
        for places in range(1, 7):
            web = samples.full(places, 3)
            every = [(number, ()) for number in range(2 ** places - 1)]
            for bound in (places, places + 1, places + 2, GREATEST):
                self.assertIs(walks.shows(web, "longest", bound, every), False)
                self.assertIs(walks.shows(web, "longest", bound, every + [(2 ** places - 1, ())]), False)
                self.assertIsNone(walks.paper(web, "longest", bound))
            told = walks.paper(web, "longest", places - 1)
            self.assertIs(walks.shows(web, "longest", places - 1, told), True)
            if places > 1:
                self.assertEqual(set(told), laid_plainly(web, "longest", places - 2))
                self.assertIs(walks.shows(web, "longest", places - 1, every), places == 2)

    def test_no_place(self):
        for kind, start in (("longest", ()), ("most", ()), ("total", 0)):
            for bound in (1, 2, GREATEST):
                for some in ([], [(0, start)], [(0, start), (1, start)]):
                    self.assertIs(walks.shows((0, []), kind, bound, some), False)

    def test_what_is_no_pair(self):
        for other in ((), (1,), (1, (), ()), [1, ()]):
            self.assertIs(walks.shows((2, [(0, 1, 3)]), "most", 1, [(0, ()), other]), False)

    def test_truths_are_no_numbers(self):
        web = (2, [(0, 1, 3)])
        self.assertIs(walks.shows(web, "most", 1, [(0, ())]), True)
        self.assertIs(walks.shows(web, "most", 1, [(False, ())]), False)
        self.assertIs(walks.shows(web, "total", 1, [(0, False)]), False)
        self.assertIs(walks.shows(web, "longest", 1, [(0, ()), (1, (False,))]), False)


class Untouched(unittest.TestCase):
    def test_nothing_handed_in_is_changed(self):
        for web in samples.webs()[::3] + [STAR]:
            for kind in KINDS:
                handed = copy.deepcopy(web)
                least = walks.least(web, kind)[0]
                walks.how_many(web, kind, least)
                walks.first(web, kind, least)
                some = walks.paper(web, kind, least)[::-1]
                kept = copy.deepcopy(some)
                walks.shows(web, kind, least, some)
                walks.shows(web, kind, least + 1, some)
                self.assertEqual((web, some), (handed, kept))

    def test_lists_may_be_changed_afterwards(self):
        for kind in KINDS:
            web = (4, list(STAR[1]))
            bound, order = walks.least(web, kind)
            expected, told = list(order), walks.paper(web, kind, bound)
            kept = list(told)
            for changed in (order, told, walks.first(web, kind, bound), walks.paper(web, kind, 0)):
                changed.reverse()
                changed.append((9, 9))
            self.assertEqual(walks.least(web, kind), (bound, expected))
            self.assertEqual(walks.first(web, kind, bound), expected)
            self.assertEqual(walks.paper(web, kind, bound), kept)
            self.assertEqual(walks.paper(web, kind, 0), [])
            self.assertIs(walks.shows(web, kind, bound, told), False)
            told.pop()
            self.assertIs(walks.shows(web, kind, bound, told), True)
            told.clear()
            self.assertIs(walks.shows(web, kind, bound, told), False)
            web[1].clear()
            self.assertEqual(walks.least(web, kind), (0, [0, 1, 2, 3]))
            self.assertEqual(walks.how_many(web, kind, 0), 24)


if __name__ == "__main__":
    unittest.main()
