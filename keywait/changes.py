"""What an edit of a keymap changes, and which bindings could as well be dropped."""

from keywait.compare import behave_alike, bound_in_either, check_pair
from keywait.maps import bound_in, check_state
from keywait.reach import ways_to


def changes(before, after, state):
    """All that differs between a keymap before an edit and one after: (rebound, gained, lost, held, cut)."""
    check_pair(before, after, state)
    old = ways_to(before, state)
    new = ways_to(after, state)
    shared = sorted([here for here in old if here in new])
    return (
        rebound_in(before, after, shared),
        sorted([here for here in new if here not in old]),
        sorted([here for here in old if here not in new]),
        held_in(before, after, shared),
        cut_in(before, after, shared),
    )


def spare(keymap, state):
    """The (layer, index) of each binding without which, it alone, the keymap behaves alike, ascending."""
    check_state(keymap, state)
    return [
        (layer, index)
        for layer, bindings in enumerate(keymap[3])
        for index in range(len(bindings))
        if behave_alike(keymap, without_binding(keymap, layer, index), state)
    ]


def rebound_in(before, after, states):
    """(state, keys, before, after) for each of the states and each sequence with different commands there."""
    return [
        (here, keys, old, new)
        for here in states
        for keys, old, new in bound_in_either(before, after, here)
        if old != new
    ]


def held_in(before, after, states):
    """(state, keys, new) for each of the states and keys that one of the keymaps alone holds there."""
    found = []
    for here in states:
        old = proper_prefixes(bound_in(before, here))
        new = proper_prefixes(bound_in(after, here))
        found.extend([(here, keys, keys in new) for keys in sorted(set(old) ^ set(new))])
    return found


def cut_in(before, after, states):
    """(state, keys) for each of the states and each sequence bound alike that another wait cuts."""
    if before[4] == after[4]:
        return []
    return [
        (here, keys)
        for here in states
        for keys, old, new in bound_in_either(before, after, here)
        if old == new and len(keys) > 1
    ]


def proper_prefixes(table):
    """A list of the proper prefixes of all sequences of the table, some perhaps several times."""
    return [keys[:many] for keys in table for many in range(1, len(keys))]


def without_binding(keymap, layer, index):
    """The keymap without this one binding."""
    flags, outside, commands, layers, wait = keymap
    kept = layers[layer][:index] + layers[layer][index + 1:]
    return (flags, outside, commands, layers[:layer] + (kept,) + layers[layer + 1:], wait)
