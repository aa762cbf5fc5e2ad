"""The orders that keep a bound, laid place by place, and papers that show that no order measures less."""

from rowlay.errors import BadKind
from rowlay.tables import holds, leading_out, least_before, neighbours, set_count, set_of
from rowlay.totals import least_total
from rowlay.webs import is_whole, is_within, look_kind, look_web

GREATEST_BOUND = 1000000


class Walk:
    # Beginnings with the same set and the same that matters can go on alike: so pairs stand for them.

    def __init__(self, web, kind, bound):
        self.places = web[0]
        self.every = set_count(web[0]) - 1
        self.kind = kind
        self.bound = bound
        self.out = leading_out(web)
        self.tied = neighbours(web)

    def beginning(self):
        if self.kind == "total":
            return (0, 0)
        return (0, ())

    def last_then(self, pair, place):
        # Here no tie of any order is longer than the bound.
        if self.bound >= self.places - 1:
            return ()
        gone = pair[0] & ~set_of(pair[1])
        if self.tied[place] & gone != 0:
            return None
        last = pair[1] + (place,)
        if len(last) <= self.bound:
            return last
        if self.tied[last[0]] & ~(pair[0] | (1 << place)) != 0:
            return None
        return last[1:]

    def matters_then(self, pair, place):
        if self.kind == "longest":
            return self.last_then(pair, place)
        lies = self.out[pair[0] | (1 << place)]
        if self.kind == "total":
            lies += pair[1]
        if lies > self.bound:
            return None
        return lies if self.kind == "total" else ()

    def steps(self, pair):
        found = []
        for place in range(self.places):
            if not holds(pair[0], place):
                matters = self.matters_then(pair, place)
                if matters is not None:
                    found.append((place, (pair[0] | (1 << place), matters)))
        return found

    def may_matter(self, some, matters):
        if self.kind == "total":
            return is_whole(matters)
        if self.kind == "most":
            return matters == ()
        if not isinstance(matters, tuple):
            return False
        return all([is_within(place, 0, self.places - 1) and holds(some, place) for place in matters])

    def may_stand(self, pair):
        if not isinstance(pair, tuple) or len(pair) != 2:
            return False
        # The set of all is left out: by a pair of it some order would be laid to its end.
        return is_within(pair[0], 0, self.every - 1) and self.may_matter(pair[0], pair[1])


def look_asked(web, kind, bound):
    look_web(web)
    look_kind(kind)
    if not is_within(bound, 0, GREATEST_BOUND):
        raise BadKind(f"a bound is a number from 0 to {GREATEST_BOUND}")


def layer_behind(walk, layer):
    found = {}
    for pair, ways in layer.items():
        for place, after in walk.steps(pair):
            found[after] = found.get(after, 0) + ways
    return found


def layers(walk):
    # Every step adds a place: so the pairs of one layer are never those of another.
    found = [{walk.beginning(): 1}]
    for step in range(walk.places):
        found.append(layer_behind(walk, found[-1]))
    return found


def rest_of_row(walk, pair, dead):
    if pair[0] == walk.every:
        return []
    # Other beginnings come to the same pair: what led nowhere once is not tried again.
    if pair in dead:
        return None
    for place, after in walk.steps(pair):
        rest = rest_of_row(walk, after, dead)
        if rest is not None:
            return [place] + rest
    dead[pair] = True
    return None


def first_row(walk):
    return rest_of_row(walk, walk.beginning(), {})


def least_most(web):
    out = leading_out(web)
    found = [0]
    for some in range(1, len(out)):
        found.append(max(least_before(found, some), out[some]))
    return found[-1]


def bound_to_try(web, kind):
    # By these two kinds there are too many bounds to try one after the other.
    if kind == "total":
        return least_total(web)
    if kind == "most":
        return least_most(web)
    return 0


def how_many(web, kind, bound):
    look_asked(web, kind, bound)
    return sum(layers(Walk(web, kind, bound))[-1].values())


def first(web, kind, bound):
    look_asked(web, kind, bound)
    return first_row(Walk(web, kind, bound))


def least(web, kind):
    look_web(web)
    look_kind(kind)
    bound = bound_to_try(web, kind)
    row = first_row(Walk(web, kind, bound))
    while row is None:
        bound += 1
        row = first_row(Walk(web, kind, bound))
    return (bound, row)


def paper(web, kind, bound):
    look_asked(web, kind, bound)
    if bound == 0:
        return []
    found = layers(Walk(web, kind, bound - 1))
    if len(found[-1]) > 0:
        return None
    pairs = []
    for layer in found:
        pairs.extend(list(layer))
    return sorted(pairs)


def shows(web, kind, bound, some):
    look_asked(web, kind, bound)
    if bound == 0:
        return True
    walk = Walk(web, kind, bound - 1)
    kept = {}
    for pair in some:
        if not walk.may_stand(pair):
            return False
        kept[pair] = True
    if walk.beginning() not in kept:
        return False
    for pair in kept:
        for place, after in walk.steps(pair):
            if after not in kept:
                return False
    return True
