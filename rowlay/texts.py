"""Webs written as texts, and read from them."""

from rowlay.errors import BadText, BadWeb
from rowlay.webs import look_web

HEAD = "places "
FIGURES = "0123456789"
MOST_FIGURES = 3


def written(web):
    look_web(web)
    places = web[0]
    rows = [f"{HEAD}{places}"] + [f"{one}-{other} {weight}" for one, other, weight in web[1]]
    return "\n".join(rows)


def number_of(word):
    if not 1 <= len(word) <= MOST_FIGURES or not all([sign in FIGURES for sign in word]):
        raise BadText(f"{word!r} is no number of up to {MOST_FIGURES} figures")
    if word[0] == "0" and word != "0":
        raise BadText(f"{word!r} has noughts ahead")
    return int(word)


def places_of(row):
    if not row.startswith(HEAD):
        raise BadText(f"{row!r} does not tell how many places")
    return number_of(row[len(HEAD):])


def tie_of(row):
    # What is missing leaves an empty word behind, and what is too much a sign that is no figure.
    halves = row.partition("-")
    behind = halves[2].partition(" ")
    return (number_of(halves[0]), number_of(behind[0]), number_of(behind[2]))


def read(text):
    rows = text.split("\n")
    web = (places_of(rows[0]), [tie_of(row) for row in rows[1:]])
    try:
        look_web(web)
    except BadWeb as e:
        raise BadText("the numbers make no web") from e
    return web
