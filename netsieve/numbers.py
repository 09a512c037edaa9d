"""Numbers from 0 to 4294967295, and reckoning with them."""

OPS = ("plus", "minus", "times", "over", "rest", "and", "or", "xor", "left", "right")
DIVIDING = ("over", "rest")
SHIFTING = ("left", "right")
ROUND = 4294967296
WIDTH = 32


# Truths are ints to Python, but no whole numbers here.
def is_whole(thing):
    return isinstance(thing, int) and not isinstance(thing, bool)


def is_number(thing):
    return is_whole(thing) and 0 <= thing < ROUND


def reckoned(op, one, other):
    if op in DIVIDING and other == 0:
        return None
    return plainly_reckoned(op, one, other) % ROUND


def plainly_reckoned(op, one, other):
    if op == "plus":
        return one + other
    if op == "minus":
        return one - other
    if op == "times":
        return one * other
    if op == "over":
        return one // other
    if op == "rest":
        return one % other
    if op == "and":
        return one & other
    if op == "or":
        return one | other
    if op == "xor":
        return one ^ other
    return shifted(op, one, other)


def shifted(op, one, often):
    # Answered ahead of the shift, which would fill the memory where often is great.
    if often >= WIDTH:
        return 0
    # Python refuses to shift less often than not at all; nothing is refused here.
    times = max(often, 0)
    return one << times if op == "left" else one >> times
