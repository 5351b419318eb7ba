"""Values that several tests share: keymaps, drawn ones too, and values that are none."""

import copy

WAIT = 5

# One flag from outside, one only for commands; "k" is unbound while a is on.
KEYMAP = (
    ("a", "b"),
    ("a",),
    {"go": {}, "up": {"b": True}, "off": {"a": False, "b": False}},
    (
        (("j", {}, "go"), ("k", {"a": True}, None)),
        (),
        (("k", {}, "up"), ("jk", {"b": True}, "off"), ("j", {}, "up")),
    ),
    WAIT,
)
STATES = [(False, False), (False, True), (True, False), (True, True)]

# No flags at all: "j" waits for a "k".
PLAIN = ((), (), {"down": {}, "leave": {}}, ((("j", {}, "down"), ("jk", {}, "leave")),), WAIT)


def nested(depth):
    """A list in a list in a list, so deep."""
    thing = []
    for _ in range(depth - 1):
        thing = [thing]
    return thing


# Values of every kind that callers pass. None of them is a keymap or a row entry.
STRANGE = [
    None, True, False, 0, 1, -1, 5, 10 ** 20 - 1, -(10 ** 20) + 1,
    "", "a", "j", "key", "jkjkj", "A", "1", " ", "\n", "\u00e9", "\u0131", "\ud800", "x" * 2000,
    (), (None,), ((),), ([],), ({},), ("a",), ("a", "b", "c", "d", "e"), (0,) * 1999,
    [], [None], [[]], [()], ["a"], nested(12), [0] * 1999,
    {}, {"a": True}, {"a": 1}, {0: []}, {None: None}, {("a",): True}, {True: True}, {"": {}},
]


def with_part(keymap, place, part):
    """The keymap with another part at the place (0 to 4)."""
    return keymap[:place] + (part,) + keymap[place + 1:]


def with_binding(binding, flags=("a",), commands=("go",)):
    """A keymap with this one binding."""
    return (flags, (), {name: {} for name in commands}, ((binding,),), WAIT)


def exactly(thing):
    """What tells a value from every other one: True from 1, a tuple from a list."""
    if isinstance(thing, dict):
        rows = sorted((repr(key), exactly(thing[key])) for key in thing)
        return "{" + ", ".join(f"{key}: {worth}" for key, worth in rows) + "}"
    if isinstance(thing, (list, tuple)):
        return type(thing).__name__ + "[" + ", ".join(exactly(one) for one in thing) + "]"
    return repr(thing)


def call(function, *arguments):
    """The function's result or error, after a check that it left its arguments alone."""
    before = copy.deepcopy(arguments)
    try:
        return function(*arguments)
    finally:
        if exactly(before) != exactly(arguments):
            raise AssertionError(f"{function.__name__} changed its arguments {before!r}")


def draw_word(drawn, signs, most):
    """A drawn word of one to so many of the signs."""
    return "".join(drawn.choice(signs) for _ in range(drawn.randint(1, most)))


def draw_settings(drawn, flags):
    """A drawn effect or condition."""
    return {flag: drawn.random() < 0.5 for flag in flags if drawn.random() < 0.4}


def draw_map(drawn, wait=None):
    """A drawn keymap over few letters, so that sequences overlap."""
    flags = tuple(sorted(drawn.sample(["a", "b", "caps", "ins"], drawn.randint(0, 3))))
    outside = tuple(flag for flag in flags if drawn.random() < 0.6)
    names = drawn.sample(["a", "go", "down", "up", "leave", "zzzzzzzz"], drawn.randint(0, 6))
    commands = {name: draw_settings(drawn, flags) for name in names}
    layers = [[] for _ in range(drawn.randint(1, 4))]
    for _ in range(drawn.randint(0, 16)):
        command = drawn.choice(names) if names and drawn.random() < 0.8 else None
        binding = (draw_word(drawn, "jjkl", 4), draw_settings(drawn, flags), command)
        drawn.choice(layers).append(binding)
    layers = tuple(tuple(layer) for layer in layers)
    return (flags, outside, commands, layers, wait or drawn.choice([1, 2, 5, 1000]))


def draw_state(drawn, keymap):
    """A drawn state of the keymap."""
    return tuple(drawn.random() < 0.5 for _ in keymap[0])


def draw_row(drawn, keymap, most=30):
    """A drawn row for the keymap, with gaps about as long as its wait."""
    row = []
    time = drawn.randint(0, 3)
    for _ in range(drawn.randint(0, most)):
        wait = keymap[4]
        time += drawn.choice([0, 0, 1, wait - 1, wait, wait + 1, 2 * wait])
        if keymap[1] and drawn.random() < 0.2:
            row.append(("set", drawn.choice(keymap[1]), drawn.random() < 0.5, time))
        else:
            row.append(("key", drawn.choice("jjjkklx"), time))
    return row
