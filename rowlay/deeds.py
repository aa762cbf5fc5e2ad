"""A web laid in an order, and the deeds that change the order."""

from rowlay.errors import BadSpot
from rowlay.webs import gaps, is_within, longest, look_both, total


def look_spots(row, one, other):
    for spot in (one, other):
        if not is_within(spot, 0, len(row) - 1):
            raise BadSpot(f"there is no spot {spot!r}")


def swapped(row, one, other):
    changed = list(row)
    changed[one] = row[other]
    changed[other] = row[one]
    return changed


def moved(row, one, other):
    rest = row[:one] + row[one + 1:]
    return rest[:other] + [row[one]] + rest[other:]


def turned(row, one, other):
    start = min(one, other)
    behind = max(one, other) + 1
    return row[:start] + list(reversed(row[start:behind])) + row[behind:]


class Laid:
    def __init__(self, web, order):
        look_both(web, order)
        # Copies, for the lists are the caller's and may change afterwards.
        self.web = (web[0], list(web[1]))
        self.row = list(order)
        self.past = []

    def lay(self, row):
        # A row is never changed in its place, so the old one can be kept as it is.
        self.past.append(self.row)
        self.row = row

    def swap(self, one, other):
        look_spots(self.row, one, other)
        self.lay(swapped(self.row, one, other))

    def move(self, one, other):
        look_spots(self.row, one, other)
        self.lay(moved(self.row, one, other))

    def turn(self, one, other):
        look_spots(self.row, one, other)
        self.lay(turned(self.row, one, other))

    def back(self):
        if len(self.past) == 0:
            return False
        self.row = self.past.pop()
        return True

    def order(self):
        return list(self.row)

    def gaps(self):
        return gaps(self.web, self.row)

    def longest(self):
        return longest(self.web, self.row)

    def total(self):
        return total(self.web, self.row)

    def best_swap(self):
        best = None
        least = self.total()
        for one in range(len(self.row)):
            for other in range(one + 1, len(self.row)):
                tried = total(self.web, swapped(self.row, one, other))
                # Only what is less counts: of equally good pairs the first one stays.
                if tried < least:
                    best = (one, other)
                    least = tried
        return best
