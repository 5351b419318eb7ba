"""The errors that Keywait raises."""


class KeywaitError(ValueError):
    """Any of the errors below."""


class NoMap(KeywaitError):
    """What was passed is no keymap."""


class NoState(KeywaitError):
    """What was passed is no state of the keymap."""


class NoKeys(KeywaitError):
    """What was passed are no keys, or not as many as may be."""


class NoCommand(KeywaitError):
    """What was passed is no command of the keymap, or are no such commands."""


class NoRow(KeywaitError):
    """What was passed is no row for the keymap."""


class NoTime(KeywaitError):
    """What was passed is no time, or a time before one that was passed already."""


class NoFlag(KeywaitError):
    """What was passed is no flag that may be changed from outside, or no value of one."""


class Unlike(KeywaitError):
    """Two keymaps are not alike in form."""


class NoGaps(KeywaitError):
    """What was passed are no gaps for the keys, or no place of an open gap."""


class NoNumber(KeywaitError):
    """What was passed is no number of those that are asked."""


class NoBinding(KeywaitError):
    """There is no such binding, or it has no command."""

    def __init__(self, layer, index):
        super().__init__(f"no binding with a command at layer {layer}, index {index}")
        self.layer = layer
        self.index = index


class NoText(KeywaitError):
    """What was passed is no text of a keymap: this line is the first that is wrong."""

    def __init__(self, line):
        super().__init__(f"no text of a keymap: line {line}")
        self.line = line
