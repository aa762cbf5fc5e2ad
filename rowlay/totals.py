"""What the orders of a web's places come to at least by their total, and lists that show it."""

from rowlay.tables import leading_out, least_before
from rowlay.webs import is_whole, look_web


def prices(web):
    look_web(web)
    out = leading_out(web)
    found = [0]
    for some in range(1, len(out)):
        found.append(least_before(found, some) + out[some])
    return found


def least_total(web):
    return prices(web)[-1]


def shows_total(web, bound, paper):
    look_web(web)
    out = leading_out(web)
    if len(paper) != len(out) or not all([is_whole(number) for number in paper]):
        return False
    if paper[0] != 0 or paper[-1] < bound:
        return False
    for some in range(1, len(out)):
        if paper[some] > least_before(paper, some) + out[some]:
            return False
    return True
