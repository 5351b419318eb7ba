"""Whether two keymaps that are alike in form behave alike, and a shortest row if they do not."""

from keywait.maps import bound_in, check_alike, check_map, check_state
from keywait.reach import is_closed, ways_to
from keywait.reading import row_of


def compare(one, other, state):
    """("same", the reachable states), or ("differ", a shortest row whose events differ)."""
    check_pair(one, other, state)
    # The ways of one keymap are enough: what leads elsewhere in the other differs on the way, with fewer keys.
    found = ways_to(one, state)
    differing = [
        (found[here][0] + len(keys), here, keys)
        for here in found
        for keys in differences(one, other, here)
    ]
    if not differing:
        return ("same", sorted(found))
    _, here, keys = min(differing)
    return ("differ", differing_row(one, other, found[here][1], here, keys))


def is_agreement(one, other, state, thing):
    """Whether the thing is an agreement: a closed list of states in which nothing differs."""
    check_pair(one, other, state)
    if not is_closed(one, state, thing):
        return False
    return not any(differences(one, other, here) for here in thing)


def check_pair(one, other, state):
    """Raise the error of the earliest that is none, or Unlike between keymaps and state."""
    check_map(one)
    check_map(other)
    check_alike(one, other)
    check_state(one, state)


def behave_alike(one, other, state):
    """Whether two keymaps that are checked already behave alike from the state on."""
    return not any(differences(one, other, here) for here in ways_to(one, state))


def bound_in_either(one, other, state):
    """A list, ascending, of (keys, command, command) for what is bound in either of the two keymaps.

    The commands are that of the one and that of the other, None where the keys are not bound.
    """
    first = bound_in(one, state)
    second = bound_in(other, state)
    return [(keys, first.get(keys), second.get(keys)) for keys in sorted(set(list(first) + list(second)))]


def differences(one, other, state):
    """The sequences that the two keymaps, both in this state, may read differently, ascending."""
    # A gap between the two waits parts what the shorter one reads, and what the longer one does not.
    torn = one[4] != other[4]
    return [
        keys
        for keys, first, second in bound_in_either(one, other, state)
        if first != second or (torn and len(keys) > 1)
    ]


def differing_row(one, other, parts, state, keys):
    """A row of these bursts, which lead to the state, and of keys that are read differently there."""
    longest = max(one[4], other[4])
    row = row_of(longest, parts)
    time = len(parts) * (longest + 1)
    # Keys that both bind alike are parted by gaps that are too long for one of the waits alone.
    gap = longest if bound_in(one, state).get(keys) == bound_in(other, state).get(keys) else 0
    for letter in keys:
        row.append(("key", letter, time))
        time += gap
    return row
