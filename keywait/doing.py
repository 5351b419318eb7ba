"""Rows that do some commands in order, and the tables that tell how few keys it takes."""

from keywait.errors import NoCommand
from keywait.kinds import is_integer, is_name, is_within
from keywait.maps import bound_in, check_map, check_state, fits_state, states_of
from keywait.reach import steps
from keywait.reading import row_of

MOST_NAMES = 6


def least_keys(keymap, state, names):
    """(number, row, table) of a shortest row that does the commands, or (None, None, table)."""
    check_state(keymap, state)
    check_names(keymap, names)
    table, ways = shortest(keymap, names)
    start = (state, 0)
    if table[start] is None:
        return (None, None, table)
    return (table[start], row_of(keymap[4], parts_from(ways, start)), table)


def is_table(keymap, names, thing):
    """Whether the thing is a table for the commands."""
    check_map(keymap)
    check_names(keymap, names)
    if not isinstance(thing, dict) or not all(is_place(keymap, names, place) for place in thing):
        return False
    if len(thing) != len(states_of(keymap)) * (len(names) + 1):
        return False
    # Only numbers and None can be compared: the rules come behind this.
    if not all(is_worth(thing[place]) for place in thing):
        return False
    return all(keeps_rules(keymap, names, thing, place) for place in thing)


def check_names(keymap, names):
    """Raise NoCommand if these are no commands that a row could be asked to do."""
    if not isinstance(names, tuple) or not 1 <= len(names) <= MOST_NAMES:
        raise NoCommand("commands to do are a tuple of one to six")
    for name in names:
        # A dict cannot be asked for a list: is_name comes first.
        if not is_name(name) or name not in keymap[2]:
            raise NoCommand("this is no command of the keymap")


def moves(keymap, names, place):
    """A list of (keys, settings, place behind) for each bound sequence and each set entry.

    A place is (state, done); keys and settings are those of a burst.
    """
    state, done = place
    table = bound_in(keymap, state)
    found = []
    for keys, settings, behind in steps(keymap, state):
        # A set entry has no keys, and so no command.
        is_next = table.get(keys) == names[done]
        found.append((keys, settings, (behind, done + 1 if is_next else done)))
    return found


def shortest(keymap, names):
    """(table, ways): the fewest keys from each place, and with which move their row begins."""
    states = states_of(keymap)
    table = {(state, len(names)): 0 for state in states}
    onward = {}
    for state in states:
        for done in range(len(names)):
            table[(state, done)] = None
            onward[(state, done)] = moves(keymap, names, (state, done))
    ways = {}
    settled = False
    while not settled:
        settled = True
        for place in onward:
            for keys, settings, behind in onward[place]:
                if table[behind] is not None and is_less(len(keys) + table[behind], table[place]):
                    table[place] = len(keys) + table[behind]
                    ways[place] = (keys, settings, behind)
                    settled = False
    return (table, ways)


def is_less(number, other):
    """Whether the number is less than the other one, which is None if there is none so far."""
    return other is None or number < other


def parts_from(ways, place):
    """The bursts of the row that the ways tell from the place on."""
    parts = []
    while place in ways:
        keys, settings, place = ways[place]
        parts.append((keys, settings))
    return parts


def is_place(keymap, names, thing):
    """Whether the thing is a (state, done) for so many commands."""
    if not isinstance(thing, tuple) or len(thing) != 2:
        return False
    return fits_state(keymap, thing[0]) and is_within(thing[1], 0, len(names))


def is_worth(thing):
    """Whether the thing can be a value of a table."""
    return thing is None or (is_integer(thing) and thing >= 0)


def keeps_rules(keymap, names, table, place):
    """Whether the value at the place fits those of the places behind it."""
    value = table[place]
    if place[1] == len(names):
        return value == 0
    behind = [(keys, table[later]) for keys, _, later in moves(keymap, names, place)]
    if value is None:
        return all(worth is None for _, worth in behind)
    return all(worth is None or value <= len(keys) + worth for keys, worth in behind)
