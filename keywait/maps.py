"""Keymaps and states: what they are, which bindings win, what a command changes."""

from keywait.errors import NoCommand, NoKeys, NoMap, NoState, Unlike
from keywait.kinds import is_ascending, is_boolean, is_keys, is_name, is_within

MOST_FLAGS = 3
MOST_COMMANDS = 8
MOST_LAYERS = 4
MOST_BINDINGS = 16
LONGEST_WAIT = 1000


def is_map(thing):
    """Whether the thing is a keymap."""
    if not isinstance(thing, tuple) or len(thing) != 5:
        return False
    flags, outside, commands, layers, wait = thing
    # In this order: what stands further on may be judged by what stands before it.
    return (
        are_flags(flags)
        and are_outside(flags, outside)
        and are_commands(flags, commands)
        and are_layers(flags, commands, layers)
        and is_within(wait, 1, LONGEST_WAIT)
    )


def is_state(keymap, thing):
    """Whether the thing is a state of the keymap."""
    check_map(keymap)
    return fits_state(keymap, thing)


def winner(keymap, state, keys):
    """The (layer, index) of the binding that wins for the keys in the state, or None."""
    check_state(keymap, state)
    if not is_keys(keys):
        raise NoKeys("keys are a string of one to four letters")
    return winner_in(keymap, state, keys)


def bound(keymap, state):
    """A dict from each sequence that is bound in the state to its command."""
    check_state(keymap, state)
    return bound_in(keymap, state)


def after(keymap, state, command):
    """The state behind the command when it is fired in the state."""
    check_state(keymap, state)
    if not is_name(command) or command not in keymap[2]:
        raise NoCommand("this is no command of the keymap")
    return state_after(keymap, state, command)


def check_map(keymap):
    """Raise NoMap if this is no keymap."""
    if not is_map(keymap):
        raise NoMap("this is no keymap")


def check_state(keymap, state):
    """Raise NoMap if there is no keymap, and NoState if this is no state of it."""
    check_map(keymap)
    if not fits_state(keymap, state):
        raise NoState("this is no state of the keymap")


def check_alike(one, other):
    """Raise Unlike if the two, keymaps both, are not alike in form."""
    if one[:3] != other[:3]:
        raise Unlike("flags, outside or commands of the keymaps differ")


def copy_of(keymap):
    """The keymap with dicts of its own, which no caller can change."""
    flags, outside, commands, layers, wait = keymap
    own_commands = {name: dict(commands[name]) for name in commands}
    own_layers = [
        tuple([(keys, dict(condition), command) for keys, condition, command in bindings])
        for bindings in layers
    ]
    return (flags, outside, own_commands, tuple(own_layers), wait)


def fits_state(keymap, thing):
    """Whether the thing is a state of what is known to be a keymap."""
    if not isinstance(thing, tuple) or len(thing) != len(keymap[0]):
        return False
    return all(is_boolean(value) for value in thing)


def states_of(keymap):
    """All states of the keymap, ascending."""
    found = [()]
    for _ in keymap[0]:
        found = [state + (value,) for state in found for value in (False, True)]
    return found


def winner_in(keymap, state, keys):
    """What winner returns, for a keymap, a state and keys that are checked already."""
    facts = facts_of(keymap, state)
    for layer, bindings in enumerate(keymap[3]):
        for index, (own_keys, condition, _) in enumerate(bindings):
            if own_keys == keys and holds(condition, facts):
                return (layer, index)
    return None


def bound_in(keymap, state):
    """What bound returns, for a keymap and a state that are checked already."""
    facts = facts_of(keymap, state)
    winning = {}
    for bindings in keymap[3]:
        for keys, condition, command in bindings:
            # A None that wins is kept: it bars the bindings behind it.
            if keys not in winning and holds(condition, facts):
                winning[keys] = command
    return {keys: winning[keys] for keys in winning if winning[keys] is not None}


def state_after(keymap, state, command):
    """What after returns, for a keymap, a state and a command that are checked already."""
    return with_flags(keymap, state, keymap[2][command])


def with_flags(keymap, state, settings):
    """The state, but with the values that settings, a dict, has for some of the flags."""
    facts = facts_of(keymap, state)
    return tuple([settings.get(flag, facts[flag]) for flag in keymap[0]])


def facts_of(keymap, state):
    """A dict from each flag to its value in the state."""
    return dict(zip(keymap[0], state))


def holds(condition, facts):
    """Whether each flag of the condition has the value that the condition gives it."""
    return all(facts[flag] == condition[flag] for flag in condition)


def are_flags(thing):
    """Whether the thing can be the flags of a keymap."""
    return are_names(thing) and len(thing) <= MOST_FLAGS


def are_outside(flags, thing):
    """Whether the thing can be the flags that are changed from outside, too."""
    return are_names(thing) and all(flag in flags for flag in thing)


def are_names(thing):
    """Whether the thing is a tuple of different names, ascending."""
    if not isinstance(thing, tuple) or not all(is_name(name) for name in thing):
        return False
    return is_ascending(thing)


def are_settings(flags, thing):
    """Whether the thing is an effect or a condition: a dict from flags to booleans."""
    if not isinstance(thing, dict):
        return False
    return all(flag in flags and is_boolean(thing[flag]) for flag in thing)


def are_commands(flags, thing):
    """Whether the thing can be the commands of a keymap with these flags."""
    if not isinstance(thing, dict) or len(thing) > MOST_COMMANDS:
        return False
    return all(is_name(name) and are_settings(flags, thing[name]) for name in thing)


def are_layers(flags, commands, thing):
    """Whether the thing can be the layers of a keymap with these flags and commands."""
    if not isinstance(thing, tuple) or not 1 <= len(thing) <= MOST_LAYERS:
        return False
    if not all(isinstance(layer, tuple) for layer in thing):
        return False
    if sum(len(layer) for layer in thing) > MOST_BINDINGS:
        return False
    for layer in thing:
        if not all(is_binding(flags, commands, binding) for binding in layer):
            return False
    return True


def is_binding(flags, commands, thing):
    """Whether the thing can be a binding of a keymap with these flags and commands."""
    if not isinstance(thing, tuple) or len(thing) != 3:
        return False
    keys, condition, command = thing
    if not is_keys(keys) or not are_settings(flags, condition):
        return False
    # A dict cannot be asked for a list: is_name comes first.
    return command is None or (is_name(command) and command in commands)
