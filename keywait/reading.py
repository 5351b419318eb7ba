"""Rows of keys with times, and how they are read."""

from keywait.errors import NoRow
from keywait.kinds import MOST_KEYS, is_boolean, is_letter, is_within
from keywait.maps import bound_in, check_map, check_state, state_after, with_flags

MOST_ENTRIES = 300
LATEST = 10 ** 9


def is_row(keymap, thing):
    """Whether the thing is a row for the keymap."""
    check_map(keymap)
    return fits_row(keymap, thing)


def read(keymap, state, row):
    """The events of the row, read from the state on, and the state behind them."""
    check_state(keymap, state)
    if not fits_row(keymap, row):
        raise NoRow("this is no row for the keymap")
    events = []
    for keys, settings in bursts(row, keymap[4]):
        told, state, _ = settle(keymap, state, keys, True)
        events.extend(told)
        state = with_flags(keymap, state, settings)
    return (events, state)


def fits_row(keymap, thing):
    """Whether the thing is a row for what is known to be a keymap."""
    if not isinstance(thing, list) or len(thing) > MOST_ENTRIES:
        return False
    earliest = 0
    for entry in thing:
        if not is_entry(keymap[1], entry) or entry[-1] < earliest:
            return False
        earliest = entry[-1]
    return True


def is_entry(outside, thing):
    """Whether the thing is an entry of a row, outside being the flags that it may set."""
    if not isinstance(thing, tuple):
        return False
    if len(thing) == 3:
        word, letter, time = thing
        return word == "key" and is_letter(letter) and is_time(time)
    if len(thing) == 4:
        word, flag, value, time = thing
        return word == "set" and flag in outside and is_boolean(value) and is_time(time)
    return False


def is_time(thing):
    """Whether the thing is a time."""
    return is_within(thing, 0, LATEST)


def bursts(row, wait):
    """A list of (keys, settings): the keys of each burst, and what is set when it ends.

    Silence sets nothing, and between two set entries the burst has no keys.
    """
    found = []
    keys = ""
    last = 0
    for entry in row:
        if entry[0] == "set":
            found.append((keys, {entry[1]: entry[2]}))
            keys = ""
            continue
        if keys and entry[2] - last > wait:
            found.append((keys, {}))
            keys = ""
        keys += entry[1]
        last = entry[2]
    found.append((keys, {}))
    return found


def settle(keymap, state, keys, silence):
    """The events that the keys of a burst settle, the state behind them, and the keys still held.

    With silence behind the keys all of them are used.
    """
    events = []
    while keys:
        table = bound_in(keymap, state)
        if not silence and longer_ones(table, keys):
            break
        event = first_event(table, keys)
        if event[0] == "do":
            state = state_after(keymap, state, event[1])
        events.append(event)
        # Either kind of event has its keys at its end.
        keys = keys[len(event[-1]):]
    return (events, state, keys)


def longer_ones(table, keys):
    """The sequences of the table of which the keys are a proper prefix."""
    return [longer for longer in table if longer != keys and longer.startswith(keys)]


def first_event(table, rest):
    """The first event of the rest of a burst, where the table has what is bound."""
    for many in range(MOST_KEYS, 0, -1):
        keys = rest[:many]
        if keys in table:
            return ("do", table[keys], keys)
    return ("text", rest[0])


def row_of(wait, parts):
    """A row of these bursts, as bursts lists them, each so late that it stands alone."""
    row = []
    time = 0
    for keys, settings in parts:
        row.extend([("key", letter, time) for letter in keys])
        row.extend([("set", flag, settings[flag], time) for flag in settings])
        time += wait + 1
    return row
