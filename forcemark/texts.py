"""Webs as texts."""

from forcemark.errors import BadText, BadWeb
from forcemark.webs import MOST_SPOTS, look_web

HEAD = "spots "


def row_of(spot, others):
    return f"{spot}:" + "".join([f" {other}" for other in others])


def written(web):
    look_web(web)
    count = web[0]
    rows = [f"{HEAD}{count}"]
    for spot in range(count):
        greater = [line[1] for line in web[1] if line[0] == spot]
        if greater:
            rows.append(row_of(spot, greater))
    return "\n".join(rows)


# The word is held against numbers as they are written, since int would
# also take signs, blanks and noughts ahead.
def number_below(bound, word):
    for number in range(bound):
        if str(number) == word:
            return number
    raise BadText("a number is not written as it should be, or is too great")


def lines_in(row, count):
    words = row.split(" ")
    if not words[0].endswith(":"):
        raise BadText("a row begins with a spot and a colon")
    spot = number_below(count, words[0][:-1])
    return [(spot, number_below(count, word)) for word in words[1:]]


def written_or_refused(web):
    try:
        return written(web)
    except BadWeb:
        raise BadText("the rows tell no web") from None


# Rows that tell a web in another way than it is written (a spot with two
# rows, or with an empty one) are found by writing it again.
def read(text):
    rows = text.split("\n")
    if not rows[0].startswith(HEAD):
        raise BadText("the first row tells the spots")
    count = number_below(MOST_SPOTS + 1, rows[0][len(HEAD):])
    lines = []
    for row in rows[1:]:
        lines.extend(lines_in(row, count))
    web = (count, lines)
    if written_or_refused(web) != text:
        raise BadText("the web is written in another way")
    return web
