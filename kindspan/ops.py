"""What an op tells of two numbers."""

from kindspan.errors import Stuck


def reckoned(word, one, other):
    if one[0] != "number" or other[0] != "number":
        raise Stuck("an op of other things than numbers")
    if word == "plus":
        return ("number", one[1] + other[1])
    if word == "minus":
        return ("number", one[1] - other[1])
    if word == "less":
        return ("truth", one[1] < other[1])
    return ("truth", one[1] == other[1])
