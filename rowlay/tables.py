"""Tables over all sets of a web's places; a set is a number, the sum of 2 to the power of each of its places."""


def set_count(places):
    return 1 << places


def holds(some, place):
    return (some >> place) & 1 == 1


def set_of(places):
    some = 0
    for place in places:
        # No sum, for a place may stand among them twice.
        some = some | (1 << place)
    return some


def place_fewer(some):
    return [some - (1 << place) for place in range(some.bit_length()) if holds(some, place)]


def least_before(numbers, some):
    return min([numbers[fewer] for fewer in place_fewer(some)])


def leading_out(web):
    # All sets at once, for each of them is asked for again and again.
    found = []
    for some in range(set_count(web[0])):
        weights = [weight for one, other, weight in web[1] if holds(some, one) != holds(some, other)]
        found.append(sum(weights))
    return found


def neighbours(web):
    found = [0 for place in range(web[0])]
    for one, other, weight in web[1]:
        found[one] += 1 << other
        found[other] += 1 << one
    return found
