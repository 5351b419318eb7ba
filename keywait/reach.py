"""Which states can be reached, which bindings can fire, and why the others never do."""

from heapq import heappop, heappush

from keywait.errors import NoBinding
from keywait.kinds import is_ascending, is_integer, is_name, is_within
from keywait.maps import bound_in, check_state, facts_of, fits_state, state_after, winner_in, with_flags
from keywait.reading import row_of


def reachable(keymap, state):
    """A dict from each reachable state to (number, row): the fewest keys, and a row of them."""
    check_state(keymap, state)
    found = ways_to(keymap, state)
    return {here: (found[here][0], row_of(keymap[4], found[here][1])) for here in found}


def is_closed(keymap, state, thing):
    """Whether the thing is a closed list for the start state."""
    check_state(keymap, state)
    if not isinstance(thing, list) or not all(fits_state(keymap, here) for here in thing):
        return False
    if not is_ascending(thing) or state not in thing:
        return False
    for here in thing:
        for _, _, behind in steps(keymap, here):
            if behind not in thing:
                return False
    return True


def firing(keymap, state, layer, index):
    """A shortest row in which the binding fires, or reasons why it never does."""
    check_binding(keymap, state, layer, index)
    keys = keymap[3][layer][index][0]
    found = ways_to(keymap, state)
    fires = [here for here in found if winner_in(keymap, here, keys) == (layer, index)]
    if not fires:
        return ("never", {here: reason(keymap, here, layer, index) for here in found})
    _, nearest = min([(found[here][0], here) for here in fires])
    return ("row", row_of(keymap[4], found[nearest][1] + [(keys, {})]))


def is_never(keymap, state, layer, index, thing):
    """Whether the thing is reasons why the binding never fires."""
    check_binding(keymap, state, layer, index)
    # Only states are known to have an order: is_closed comes behind the sorting.
    if not isinstance(thing, dict) or not all(fits_state(keymap, here) for here in thing):
        return False
    if not is_closed(keymap, state, sorted(thing)):
        return False
    return all(is_reason(keymap, here, layer, index, thing[here]) for here in thing)


def check_binding(keymap, state, layer, index):
    """Raise the error of the earliest argument that is none."""
    check_state(keymap, state)
    layers = keymap[3]
    if (
        not is_within(layer, 0, len(layers) - 1)
        or not is_within(index, 0, len(layers[layer]) - 1)
        or layers[layer][index][2] is None
    ):
        raise NoBinding(layer, index)


def steps(keymap, state):
    """A list of (keys, settings, behind) for each bound sequence and each set entry.

    Keys and settings are those of a burst; behind is the state to which it leads.
    """
    table = bound_in(keymap, state)
    found = [(keys, {}, state_after(keymap, state, table[keys])) for keys in table]
    for flag in keymap[1]:
        for value in (False, True):
            settings = {flag: value}
            found.append(("", settings, with_flags(keymap, state, settings)))
    return found


def ways_to(keymap, state):
    """A dict from each reachable state to (number, parts): the fewest keys, and their bursts."""
    found = {state: (0, [])}
    queue = [(0, state)]
    while queue:
        # A shorter way may have been found since this one was put into the queue.
        _, here = heappop(queue)
        number, parts = found[here]
        for keys, settings, behind in steps(keymap, here):
            total = number + len(keys)
            if behind not in found or total < found[behind][0]:
                found[behind] = (total, parts + [(keys, settings)])
                heappush(queue, (total, behind))
    return found


def reason(keymap, state, layer, index):
    """A reason why the binding does not win in the state."""
    keys, condition, _ = keymap[3][layer][index]
    facts = facts_of(keymap, state)
    for flag in sorted(condition):
        if condition[flag] != facts[flag]:
            return ("condition", flag)
    return ("stronger",) + winner_in(keymap, state, keys)


def is_reason(keymap, state, layer, index, thing):
    """Whether the thing is a reason why the binding does not win in the state."""
    if not isinstance(thing, tuple):
        return False
    keys, condition, _ = keymap[3][layer][index]
    if len(thing) == 2:
        word, flag = thing
        if word != "condition" or not is_name(flag) or flag not in condition:
            return False
        return condition[flag] != facts_of(keymap, state)[flag]
    if len(thing) == 3:
        # True and 1 are equal: without this, ("stronger", 0, True) would pass.
        if thing[0] != "stronger" or not is_integer(thing[1]) or not is_integer(thing[2]):
            return False
        return thing[1:] == winner_in(keymap, state, keys) and thing[1:] < (layer, index)
    return False
