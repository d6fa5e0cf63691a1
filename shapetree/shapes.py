"""Values and their kinds, shapes, and which values fit them."""

# In this order a tree's node names what comes after each of them.
KINDS = ("number", "text", "pair")


def kind_of(value):
    if isinstance(value, int):
        return "number"
    if isinstance(value, str):
        return "text"
    return "pair"


# Of a pair of shapes only the pair itself is asked for here: its parts are held one by one in fits.
def fits_outside(shape, value):
    word = shape[0]
    if word == "any":
        return True
    if word == "kind":
        return kind_of(value) == shape[1]
    if word == "same":
        return value == shape[1]
    return kind_of(value) == "pair"


# The parts wait in a list and not in calls within calls, so that a depth beyond the bound does no harm.
def fits(shape, value):
    waiting = [(shape, value)]
    while waiting:
        held = waiting.pop()
        asked = held[0]
        found = held[1]
        if not fits_outside(asked, found):
            return False
        if asked[0] == "pair":
            waiting.append((asked[2], found[1]))
            waiting.append((asked[1], found[0]))
    return True
