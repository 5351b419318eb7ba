"""How keys are read whose gaps are not all known."""

from keywait.errors import NoGaps, NoKeys
from keywait.kinds import is_within, is_word
from keywait.maps import check_state
from keywait.reading import settle

MOST_LETTERS = 12
MOST_OPEN = 8


def readings(keymap, state, keys, gaps):
    """A list, ascending, of (filling, events): for each possible reading the first filling that gives it."""
    check_gaps(keymap, state, keys, gaps)
    found = []
    seen = set()
    for filling in fillings(gaps):
        events = events_of(keymap, state, keys, filling)
        if tuple(events) not in seen:
            seen.add(tuple(events))
            found.append((filling, events))
    return found


def mattering(keymap, state, keys, gaps, place):
    """The first filling with a long gap at the place that a short one there reads differently, or None."""
    check_gaps(keymap, state, keys, gaps)
    if not is_within(place, 0, len(gaps) - 1) or gaps[place] != "o":
        raise NoGaps("this is no place of an open gap")
    for filling in fillings(gaps[:place] + "l" + gaps[place + 1:]):
        other = filling[:place] + "s" + filling[place + 1:]
        if events_of(keymap, state, keys, filling) != events_of(keymap, state, keys, other):
            return filling
    return None


def check_gaps(keymap, state, keys, gaps):
    """Raise the error of the earliest of the four that is none."""
    check_state(keymap, state)
    if not is_word(keys, MOST_LETTERS):
        raise NoKeys("keys with gaps are a string of one to twelve letters")
    if not isinstance(gaps, str) or len(gaps) != len(keys) - 1 or not all(sign in "slo" for sign in gaps):
        raise NoGaps("gaps are a string of s, l and o, one between each two letters")
    if gaps.count("o") > MOST_OPEN:
        raise NoGaps("at most eight gaps are open")


def fillings(gaps):
    """All fillings of the gaps, ascending."""
    found = [""]
    for gap in gaps:
        signs = "ls" if gap == "o" else gap
        found = [filling + sign for filling in found for sign in signs]
    return found


def events_of(keymap, state, keys, filling):
    """The events of the keys with these gaps, of which none is open."""
    bursts = [keys[0]]
    for letter, gap in zip(keys[1:], filling):
        if gap == "l":
            bursts.append("")
        bursts[-1] += letter
    events = []
    for burst in bursts:
        told, state, _ = settle(keymap, state, burst, True)
        events.extend(told)
    return events
