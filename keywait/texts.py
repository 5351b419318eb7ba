"""Keymaps as text: one line for each part."""

from keywait.errors import NoText
from keywait.kinds import is_ascending, is_keys, is_name, is_within
from keywait.maps import LONGEST_WAIT, MOST_BINDINGS, MOST_COMMANDS, MOST_LAYERS, are_flags, are_outside, check_map

LONGEST_TEXT = 2000
MOST_DIGITS = 4
NO_COMMAND = "-"


def write_map(keymap):
    """The text of the keymap."""
    check_map(keymap)
    flags, outside, commands, layers, wait = keymap
    lines = [" ".join(("flags",) + flags), " ".join(("outside",) + outside), f"wait {wait}"]
    for name in sorted(commands):
        lines.append(f"command {name} {settings_text(commands[name])}")
    for bindings in layers:
        lines.append("layer")
        for keys, condition, command in bindings:
            word = NO_COMMAND if command is None else command
            lines.append(f"{keys} {settings_text(condition)} {word}")
    return "".join([line + "\n" for line in lines])


def read_map(text):
    """The keymap that is written so."""
    if not isinstance(text, str) or len(text) > LONGEST_TEXT:
        raise NoText(0)
    # What stands behind the last newline is no line.
    *lines, rest = text.split("\n")
    draft = Draft()
    for number, line in enumerate(lines, start=1):
        if not draft.take(line):
            raise NoText(number)
    if rest or not draft.is_whole():
        raise NoText(len(lines) + 1)
    return draft.keymap()


class Draft:
    """What the lines so far tell of a keymap."""

    def __init__(self):
        self.taken = 0
        self.flags = ()
        self.outside = ()
        self.wait = 0
        self.commands = {}
        self.layers = []
        # From each text of an effect or a condition to the dict that it stands for.
        self.settings = {}

    def take(self, line):
        """Take the next line, and tell whether the text of a keymap may go on with it."""
        words = line.split(" ")
        self.taken += 1
        if self.taken == 1:
            return self.take_flags(words)
        if self.taken == 2:
            return self.take_outside(words)
        if self.taken == 3:
            return self.take_wait(words)
        if line == "layer":
            return self.take_layer()
        if not self.layers:
            return self.take_command(words)
        return self.take_binding(words)

    def take_flags(self, words):
        """Take the line of the flags, unless it is none."""
        self.flags = tuple(words[1:])
        if words[0] != "flags" or not are_flags(self.flags):
            return False
        self.settings = {settings_text(one): one for one in all_settings(self.flags)}
        return True

    def take_outside(self, words):
        """Take the line of the flags that are changed from outside, unless it is none."""
        self.outside = tuple(words[1:])
        return words[0] == "outside" and are_outside(self.flags, self.outside)

    def take_wait(self, words):
        """Take the line of the wait, unless it is none."""
        if len(words) != 2 or words[0] != "wait" or not is_number(words[1]):
            return False
        self.wait = int(words[1])
        return is_within(self.wait, 1, LONGEST_WAIT)

    def take_layer(self):
        """Take the line with which a layer begins, unless there are too many."""
        self.layers.append([])
        return len(self.layers) <= MOST_LAYERS

    def take_command(self, words):
        """Take the line of a command, unless it is none or not the next one."""
        if len(words) < 3 or words[0] != "command" or not is_name(words[1]):
            return False
        effect = " ".join(words[2:])
        if effect not in self.settings or not is_ascending(list(self.commands) + [words[1]]):
            return False
        self.commands[words[1]] = dict(self.settings[effect])
        return len(self.commands) <= MOST_COMMANDS

    def take_binding(self, words):
        """Take the line of a binding, unless it is none or there are too many."""
        keys = words[0]
        condition = " ".join(words[1:-1])
        command = None if words[-1] == NO_COMMAND else words[-1]
        if not is_keys(keys) or condition not in self.settings:
            return False
        if command is not None and command not in self.commands:
            return False
        self.layers[-1].append((keys, dict(self.settings[condition]), command))
        return sum(len(layer) for layer in self.layers) <= MOST_BINDINGS

    def is_whole(self):
        """Whether the lines so far are the text of a keymap."""
        return len(self.layers) > 0

    def keymap(self):
        """The keymap, when the lines are whole."""
        layers = tuple([tuple(layer) for layer in self.layers])
        return (self.flags, self.outside, self.commands, layers, self.wait)


def settings_text(settings):
    """The text of an effect or a condition."""
    words = [f"{flag} on" if settings[flag] else f"{flag} off" for flag in sorted(settings)]
    return "[" + " ".join(words) + "]"


def all_settings(flags):
    """All effects, or conditions, that these flags allow."""
    found = [{}]
    for flag in flags:
        found = [{**settings, **more} for settings in found for more in ({}, {flag: False}, {flag: True})]
    return found


def is_number(word):
    """Whether the word is a number, as it is written."""
    # int also reads signs, blanks, zeros in front and digits of other scripts.
    if not 1 <= len(word) <= MOST_DIGITS or not all("0" <= sign <= "9" for sign in word):
        return False
    return word[0] != "0"
