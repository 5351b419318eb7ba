"""The simple kinds of values that all others are made of."""

LONGEST_NAME = 8
MOST_KEYS = 4


def is_integer(thing):
    """Whether the thing is an int other than True and False."""
    return isinstance(thing, int) and not isinstance(thing, bool)


def is_boolean(thing):
    """Whether the thing is True or False, and not 0 or 1."""
    return isinstance(thing, bool)


def is_within(thing, least, most):
    """Whether the thing is an integer from least to most."""
    return is_integer(thing) and least <= thing <= most


def is_word(thing, most):
    """Whether the thing is a string of one to most letters."""
    if not isinstance(thing, str) or not 1 <= len(thing) <= most:
        return False
    # The methods of strings (isalpha, islower) also take letters beyond a to z.
    return all("a" <= sign <= "z" for sign in thing)


def is_letter(thing):
    """Whether the thing is one of a to z."""
    return is_word(thing, 1)


def is_name(thing):
    """Whether the thing is a string of one to eight letters."""
    return is_word(thing, LONGEST_NAME)


def is_keys(thing):
    """Whether the thing is what a binding may have as its keys."""
    return is_word(thing, MOST_KEYS)


def is_ascending(things):
    """Whether each of the things, which have an order, is less than the next one."""
    for low, high in zip(things, things[1:]):
        if low >= high:
            return False
    return True
