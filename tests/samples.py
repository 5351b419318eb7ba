"""Values that several tests share: keymaps, drawn ones too, and values that are none."""

import copy
from itertools import product

from keywait.maps import after, bound

WAIT = 5

# One flag from outside, one only for commands; "k" is unbound while a is on.
KEYMAP = (
    ("a", "b"),
    ("a",),
    {"go": {}, "up": {"b": True}, "off": {"a": False, "b": False}},
    (
        (("j", {}, "go"), ("k", {"a": True}, None)),
        (),
        (("k", {}, "up"), ("jk", {"b": True}, "off"), ("j", {}, "up")),
    ),
    WAIT,
)
STATES = [(False, False), (False, True), (True, False), (True, True)]

# No flags at all: "j" waits for a "k".
PLAIN = ((), (), {"down": {}, "leave": {}}, ((("j", {}, "down"), ("jk", {}, "leave")),), WAIT)


def nested(depth):
    """A list in a list in a list, so deep."""
    thing = []
    for _ in range(depth - 1):
        thing = [thing]
    return thing


# Values of every kind that callers pass. None of them is a keymap or a row entry.
STRANGE = [
    None, True, False, 0, 1, -1, 5, 10 ** 20 - 1, -(10 ** 20) + 1,
    "", "a", "j", "key", "jkjkj", "A", "1", " ", "\n", "\u00e9", "\u0131", "\ud800", "x" * 2000,
    (), (None,), ((),), ([],), ({},), ("a",), ("a", "b", "c", "d", "e"), (0,) * 1999,
    [], [None], [[]], [()], ["a"], nested(12), [0] * 1999,
    {}, {"a": True}, {"a": 1}, {0: []}, {None: None}, {("a",): True}, {True: True}, {"": {}},
]


def with_part(keymap, place, part):
    """The keymap with another part at the place (0 to 4)."""
    return keymap[:place] + (part,) + keymap[place + 1:]


def with_binding(binding, flags=("a",), commands=("go",)):
    """A keymap with this one binding."""
    return (flags, (), {name: {} for name in commands}, ((binding,),), WAIT)


def exactly(thing):
    """What tells a value from every other one: True from 1, a tuple from a list."""
    if isinstance(thing, dict):
        rows = sorted((repr(key), exactly(thing[key])) for key in thing)
        return "{" + ", ".join(f"{key}: {worth}" for key, worth in rows) + "}"
    if isinstance(thing, (list, tuple)):
        return type(thing).__name__ + "[" + ", ".join(exactly(one) for one in thing) + "]"
    return repr(thing)


def call(function, *arguments):
    """The function's result or error, after a check that it left its arguments alone."""
    before = copy.deepcopy(arguments)
    try:
        return function(*arguments)
    finally:
        if exactly(before) != exactly(arguments):
            raise AssertionError(f"{function.__name__} changed its arguments {before!r}")


def draw_word(drawn, signs, most):
    """A drawn word of one to so many of the signs."""
    return "".join(drawn.choice(signs) for _ in range(drawn.randint(1, most)))


def draw_settings(drawn, flags):
    """A drawn effect or condition."""
    return {flag: drawn.random() < 0.5 for flag in flags if drawn.random() < 0.4}


def draw_map(drawn, wait=None):
    """A drawn keymap over few letters, so that sequences overlap."""
    flags = tuple(sorted(drawn.sample(["a", "b", "caps", "ins"], drawn.randint(0, 3))))
    outside = tuple(flag for flag in flags if drawn.random() < 0.6)
    names = drawn.sample(["a", "go", "down", "up", "leave", "zzzzzzzz"], drawn.randint(0, 6))
    commands = {name: draw_settings(drawn, flags) for name in names}
    layers = [[] for _ in range(drawn.randint(1, 4))]
    for _ in range(drawn.randint(0, 16)):
        command = drawn.choice(names) if names and drawn.random() < 0.8 else None
        binding = (draw_word(drawn, "jjkl", 4), draw_settings(drawn, flags), command)
        drawn.choice(layers).append(binding)
    layers = tuple(tuple(layer) for layer in layers)
    return (flags, outside, commands, layers, wait or drawn.choice([1, 2, 5, 1000]))


def draw_state(drawn, keymap):
    """A drawn state of the keymap."""
    return tuple(drawn.random() < 0.5 for _ in keymap[0])


def draw_many(drawn, many):
    """So many drawn keymaps, each with a drawn state."""
    for _ in range(many):
        keymap = draw_map(drawn)
        yield keymap, draw_state(drawn, keymap)


def draw_row(drawn, keymap, most=30):
    """A drawn row for the keymap, with gaps about as long as its wait."""
    row = []
    time = drawn.randint(0, 3)
    for _ in range(drawn.randint(0, most)):
        wait = keymap[4]
        time += drawn.choice([0, 0, 1, wait - 1, wait, wait + 1, 2 * wait])
        if keymap[1] and drawn.random() < 0.2:
            row.append(("set", drawn.choice(keymap[1]), drawn.random() < 0.5, time))
        else:
            row.append(("key", drawn.choice("jjjkklx"), time))
    return row


def typed(letters, start=0, gap=0):
    """A row of these keys with equal gaps."""
    return [("key", letter, start + place * gap) for place, letter in enumerate(letters)]


def binding_just(*sequences):
    """A keymap without flags that binds each sequence to a command of the same name."""
    bindings = tuple((keys, {}, keys) for keys in sequences)
    return ((), (), {keys: {} for keys in sequences}, (bindings,), WAIT)


def plain_bursts(row, wait):
    """The row cut before each set entry, behind it, and in each gap longer than the wait."""
    cuts = [0]
    for place in range(1, len(row)):
        one, other = row[place - 1], row[place]
        if "set" in (one[0], other[0]) or other[-1] > one[-1] + wait:
            cuts.append(place)
    return [row[cut:end] for cut, end in zip(cuts, cuts[1:] + [len(row)]) if row]


def plain_read(keymap, state, row):
    """What the words of [4] and [5] say, in another way than the program."""
    events = []
    for part in plain_bursts(row, keymap[4]):
        if part[0][0] == "set":
            place = keymap[0].index(part[0][1])
            state = state[:place] + (part[0][2],) + state[place + 1:]
            continue
        rest = "".join(entry[1] for entry in part)
        while rest:
            table = bound(keymap, state)
            fitting = sorted((keys for keys in table if rest.startswith(keys)), key=len)
            if fitting:
                events.append(("do", table[fitting[-1]], fitting[-1]))
                state = after(keymap, state, table[fitting[-1]])
            else:
                events.append(("text", rest[0]))
            rest = rest[len(events[-1][-1]):]
    return (events, state)


def draw_other(drawn, keymap):
    """A drawn keymap that is alike in form, with other bindings and another wait."""
    names = list(keymap[2])
    bindings = tuple(
        (draw_word(drawn, "jjkl", 4), draw_settings(drawn, keymap[0]), drawn.choice([None, *names]))
        for _ in range(drawn.randint(0, 12)))
    return keymap[:3] + ((bindings,), drawn.choice([1, 2, 5]))


def draw_call(drawn, keymap, time):
    """A drawn call of a Reader, as (name, argument, ..), that it accepts behind this time."""
    time += drawn.choice([0, 0, 1, keymap[4], keymap[4] + 1, 2 * keymap[4]])
    name = drawn.choice(["key"] * 12 + ["change", "change", "advance", "advance", "finish", "swap"])
    if name == "change" and keymap[1]:
        return ("change", drawn.choice(keymap[1]), drawn.random() < 0.5, time)
    if name == "swap":
        return ("swap", draw_other(drawn, keymap))
    if name == "finish":
        return ("finish",)
    if name == "advance":
        return ("advance", time)
    return ("key", drawn.choice("jjjkklx"), time)


def all_states(keymap):
    """All states of the keymap, ascending."""
    return sorted(product([False, True], repeat=len(keymap[0])))


def plain_edges(keymap, state):
    """(keys, state behind) of each bound sequence and each set entry, whose keys are ""."""
    table = bound(keymap, state)
    edges = [(keys, after(keymap, state, table[keys])) for keys in table]
    for flag, value in product(keymap[1], [False, True]):
        place = keymap[0].index(flag)
        edges.append(("", state[:place] + (value,) + state[place + 1:]))
    return edges


def plain_numbers(keymap, state):
    """The fewest keys to each reachable state: all edges, again and again, until nothing is less."""
    numbers = {state: 0}
    before = None
    while numbers != before:
        before = dict(numbers)
        for here in before:
            for keys, behind in plain_edges(keymap, here):
                numbers[behind] = min(numbers.get(behind, 1000), numbers[here] + len(keys))
    return numbers


def keys_in(row):
    """How many keys the row has."""
    return sum(entry[0] == "key" for entry in row)


def plain_steps(keymap, state, row):
    """(state before, event) for each event of the row, in order."""
    told = []
    for part in plain_bursts(row, keymap[4]):
        events, last = plain_read(keymap, state, part)
        for event in events:
            told.append((state, event))
            if event[0] == "do":
                state = after(keymap, state, event[1])
        state = last
    return told
