"""The machine of a keymap: what each input gives, over as few numbers as possible."""

from keywait.errors import NoNumber
from keywait.kinds import is_within
from keywait.maps import check_state, with_flags
from keywait.reading import settle

OTHER = "*"
SILENCE = "silence"


def machine(keymap, state):
    """The machine: a list of dicts from each input to (events, number of the next dict)."""
    check_state(keymap, state)
    words = inputs_of(keymap)
    answers = answers_from(keymap, state, words)
    numbers = numbers_of(answers)
    found = []
    for here in answers:
        # Of the places that have the same number, the first one tells for all.
        if numbers[here] == len(found):
            found.append({
                word: (events, numbers[behind])
                for word, (events, behind) in zip(words, answers[here])
            })
    return found


def parting(keymap, state, one, other):
    """A shortest list of inputs that parts the two numbers of the machine, or None if they are the same."""
    table = machine(keymap, state)
    for number in (one, other):
        if not is_within(number, 0, len(table) - 1):
            raise NoNumber("this is no number of the machine")
    ways = {(one, other): []}
    queue = [(one, other)]
    while queue:
        first, second = queue.pop(0)
        for word in table[first]:
            events, behind = table[first][word]
            other_events, other_behind = table[second][word]
            way = ways[(first, second)] + [word]
            if events != other_events:
                return way
            if behind != other_behind and (behind, other_behind) not in ways:
                ways[(behind, other_behind)] = way
                queue.append((behind, other_behind))
    return None


def inputs_of(keymap):
    """The inputs of the machine, in order."""
    letters = [letter for bindings in keymap[3] for keys, _, _ in bindings for letter in keys]
    settings = [("set", flag, value) for flag in keymap[1] for value in (False, True)]
    return sorted(set(letters)) + [OTHER, SILENCE] + settings


def answer(keymap, place, word):
    """(events, place behind) of an input. A place is (state, held keys)."""
    state, held = place
    if word == SILENCE or isinstance(word, tuple):
        events, state, held = settle(keymap, state, held, True)
        settings = {} if word == SILENCE else {word[1]: word[2]}
        return (events, (with_flags(keymap, state, settings), held))
    # No sequence goes on with the sign for any other letter, so it is never held.
    events, state, held = settle(keymap, state, held + word, False)
    return (events, (state, held))


def answers_from(keymap, state, words):
    """A dict from each place that is met from the state on, in order, to its answers to the inputs."""
    found = {}
    queue = [(state, "")]
    while queue:
        place = queue.pop(0)
        if place not in found:
            found[place] = [answer(keymap, place, word) for word in words]
            queue.extend([behind for _, behind in found[place]])
    return found


def numbers_of(answers):
    """A dict from each place to its number; places that behave alike have the same one."""
    numbers = {place: 0 for place in answers}
    many = 0
    while True:
        seen = {}
        finer = {}
        for place in answers:
            # Places that agreed for fewer inputs part here if what is behind them has parted.
            told = tuple([(tuple(events), numbers[behind]) for events, behind in answers[place]])
            finer[place] = seen.setdefault(told, len(seen))
        # The places are in the order in which they are first met, and so are their numbers.
        if len(seen) == many:
            return finer
        numbers = finer
        many = len(seen)
