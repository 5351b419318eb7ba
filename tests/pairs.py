"""Pairs of keymaps that are alike in form, drawn ones too; and rows, all short ones and what they do."""

from itertools import product

from keywait.maps import bound
from tests.samples import draw_map, draw_settings, draw_state, draw_word, plain_numbers, with_part


def draw_binding(drawn, keymap):
    """A drawn binding for the keymap."""
    command = drawn.choice([None, *sorted(keymap[2]), *sorted(keymap[2])])
    return (draw_word(drawn, "jjkl", 4), draw_settings(drawn, keymap[0]), command)


def draw_edit(drawn, keymap):
    """The keymap after a drawn small edit."""
    layers = [list(layer) for layer in keymap[3]]
    layer = drawn.choice(layers)
    kind = drawn.choice(["drop", "drop", "add", "again", "command", "condition", "exchange", "exchange", "wait"])
    place = drawn.randrange(len(layer)) if layer else None
    if kind == "wait":
        return with_part(keymap, 4, drawn.choice([1, 2, 5, 1000]))
    if kind == "add" and sum(map(len, layers)) < 16:
        layer.insert(drawn.randint(0, len(layer)), draw_binding(drawn, keymap))
    elif kind == "again" and layer and sum(map(len, layers)) < 16:
        layers[-1].append(layer[place])
    elif kind == "drop" and layer:
        del layer[place]
    elif kind == "command" and layer:
        keys, condition, _ = layer[place]
        layer[place] = (keys, condition, draw_binding(drawn, keymap)[2])
    elif kind == "condition" and layer:
        keys, _, command = layer[place]
        layer[place] = (keys, draw_settings(drawn, keymap[0]), command)
    elif kind == "exchange" and len(layer) > 1:
        other = drawn.randrange(len(layer))
        layer[place], layer[other] = layer[other], layer[place]
    return with_part(keymap, 3, tuple(tuple(one) for one in layers))


def draw_pairs(drawn, many):
    """So many (keymap, edited keymap, state), all drawn."""
    for _ in range(many):
        one = draw_map(drawn)
        other = one
        for _ in range(drawn.choice([0, 1, 1, 1, 2, 3])):
            other = draw_edit(drawn, other)
        yield one, other, draw_state(drawn, one)


def draw_twins(drawn, many):
    """So many drawn (keymap, other keymap, state) that behave alike, most of them with other bindings."""
    found = 0
    while found < many:
        for one, other, state in draw_pairs(drawn, many):
            if plain_least(one, other, state) is None and (one != other or drawn.random() < 0.1):
                found += 1
                yield one, other, state


def plain_least(one, other, state):
    """The least sum of keys that [10] names, or None if there is none."""
    sums = []
    near, far = plain_numbers(one, state), plain_numbers(other, state)
    for here in near:
        if here not in far:
            continue
        first, second = bound(one, here), bound(other, here)
        for keys in first.keys() | second.keys():
            if first.get(keys) != second.get(keys) or (one[4] != other[4] and len(keys) > 1):
                sums.append((near[here] + len(keys), far[here] + len(keys)))
    if not sums:
        return None
    # It means nothing in which of the two keymaps the keys to the state are counted.
    assert min(sums)[0] == min(total for _, total in sums)
    return min(sums)[0]


def all_rows(keymap, letters, gaps, most):
    """All rows of so many keys at most, of the letters, with these gaps, and set entries anywhere between."""
    settings = [()] + [(entry,) for entry in product(keymap[1], [False, True])]
    for many in range(most + 1):
        for keys in product(letters, repeat=many):
            for times in product(gaps, repeat=max(0, many - 1)):
                for sets in product(settings, repeat=many):
                    row, time = [], 0
                    for letter, gap, between in zip(keys, (0, *times), sets):
                        time += gap
                        row.extend([("set", flag, value, time) for flag, value in between])
                        row.append(("key", letter, time))
                    yield row


def without(keymap, layer, index):
    """The keymap with this one binding dropped."""
    layers = [list(one) for one in keymap[3]]
    del layers[layer][index]
    return with_part(keymap, 3, tuple(tuple(one) for one in layers))


def does(events, names):
    """Whether the events fire the commands in this order."""
    fired = iter([event[1] for event in events if event[0] == "do"])
    return all(name in fired for name in names)
