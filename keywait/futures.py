"""Splits: two ways in which held keys may go on, and that decide differently about them."""

from keywait.errors import NoKeys
from keywait.kinds import MOST_KEYS, is_word
from keywait.maps import bound_in, check_state
from keywait.reading import first_event, longer_ones

MOST_HELD = 3


def futures(keymap, state, held):
    """A split for the held letters, or None if no bound sequence goes on behind them."""
    check_held(keymap, state, held)
    longer = longer_ones(bound_in(keymap, state), held)
    if not longer:
        return None
    # Silence lets the held letters become an event; the rest of a sequence makes one with more keys.
    return ("", longer[0][len(held):])


def is_split(keymap, state, held, thing):
    """Whether the thing is a split for the held letters."""
    check_held(keymap, state, held)
    if not isinstance(thing, tuple) or len(thing) != 2:
        return False
    if not all(is_future(letters) for letters in thing):
        return False
    table = bound_in(keymap, state)
    return first_event(table, held + thing[0]) != first_event(table, held + thing[1])


def check_held(keymap, state, held):
    """Raise the error of the earliest of the three that is none."""
    check_state(keymap, state)
    if not is_word(held, MOST_HELD):
        raise NoKeys("held keys are a string of one to three letters")


def is_future(thing):
    """Whether the thing can stand in a split: a string of no to four letters."""
    return thing == "" or is_word(thing, MOST_KEYS)
