"""Which plain kind a thing is of, whatever is passed."""

# 2 ** 32
SHORTS = 4294967296


def is_int(thing):
    """Whether a thing is an integer; a flag is none."""
    return isinstance(thing, int) and not isinstance(thing, bool)


def is_number(thing):
    """Whether a thing is an integer from 0 on."""
    return is_int(thing) and thing >= 0


def is_number_below(thing, limit):
    """Whether a thing is a number below a limit."""
    return is_number(thing) and thing < limit


def is_short(thing):
    """Whether a thing is a number below 2 ** 32."""
    return is_number_below(thing, SHORTS)


def is_tuple_of(thing, many):
    """Whether a thing is a tuple of so many things."""
    return isinstance(thing, tuple) and len(thing) == many


def is_lot(thing):
    """Whether a thing is an ascending tuple of numbers, each once."""
    if not isinstance(thing, tuple):
        return False
    ahead = -1
    for item in thing:
        if not is_int(item) or item <= ahead:
            return False
        ahead = item
    return True
