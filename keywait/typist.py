"""How a text can be typed so that no command fires, with as few pauses as possible."""

from keywait.errors import NoKeys
from keywait.kinds import MOST_KEYS, is_ascending, is_keys, is_within, is_word
from keywait.maps import bound_in, check_state
from keywait.reading import row_of

LONGEST_TEXT = 40


def type_text(keymap, state, text):
    """("blocked", place), or ("row", row, occurrences) with a pause for each of the occurrences."""
    check_text(keymap, state, text)
    table = bound_in(keymap, state)
    for place, letter in enumerate(text):
        if letter in table:
            return ("blocked", place)
    found = pausing(table, text)
    # The pause comes as late as may be: before the last letter.
    cuts = [start + len(keys) - 1 for start, keys in found]
    parts = [text[cut:end] for cut, end in zip([0] + cuts, cuts + [len(text)])]
    return ("row", row_of(keymap[4], [(part, {}) for part in parts]), found)


def is_apart(keymap, state, text, thing):
    """Whether the thing is a list of different occurrences, ascending, no two of which one pause breaks."""
    check_text(keymap, state, text)
    table = bound_in(keymap, state)
    if not isinstance(thing, list) or not all(is_occurrence(table, text, one) for one in thing):
        return False
    return is_ascending(thing) and are_apart(thing)


def check_text(keymap, state, text):
    """Raise the error of the earliest of the three that is none."""
    check_state(keymap, state)
    if not is_word(text, LONGEST_TEXT):
        raise NoKeys("a text is a string of one to forty letters")


def is_occurrence(table, text, thing):
    """Whether the thing is an occurrence in the text of a sequence of the table."""
    if not isinstance(thing, tuple) or len(thing) != 2:
        return False
    start, keys = thing
    # A dict cannot be asked for a list: is_keys comes first.
    if not is_within(start, 0, len(text) - 1) or not is_keys(keys) or keys not in table:
        return False
    return text[start:start + len(keys)] == keys


def are_apart(occurrences):
    """Whether no two of these occurrences, which ascend, are broken by one pause."""
    last = 0
    for start, keys in occurrences:
        # There is no pause in a single letter.
        if len(keys) > 1:
            if start < last:
                return False
            last = start + len(keys) - 1
    return True


def pausing(table, text):
    """A list of occurrences, ascending, whose pauses, before the last letter of each, break all others.

    The table has no single letters.
    """
    found = []
    begin = 0
    for last in range(len(text)):
        earliest = max(begin, last - MOST_KEYS + 1)
        ending = [start for start in range(earliest, last) if text[start:last + 1] in table]
        if ending:
            found.append((ending[0], text[ending[0]:last + 1]))
            # What reaches over this place is broken here already.
            begin = last
    return found
