"""[16] Keymaps as text: how they are written, what is read, and the first line that is wrong."""

import random
import unittest

from keywait.errors import NoMap, NoText
from keywait.maps import is_map
from keywait.texts import read_map, write_map
from tests.samples import KEYMAP, PLAIN, STRANGE, call, draw_many, draw_map, exactly, with_part

DOCUMENT = (("caps", "ins"), (), {"leave": {"caps": False, "ins": False}},
            ((("jk", {"ins": True}, "leave"), ("k", {}, None)),), 5)
LINES = ["flags caps ins", "outside", "wait 5", "command leave [caps off ins off]", "layer", "jk [ins on] leave",
         "k [] -"]

# Three flags, two of them from outside; three commands; four layers, two of them empty.
LARGE = (
    ("a", "b", "ins"), ("a", "ins"), {"go": {}, "on": {"ins": True}, "all": {"a": True, "b": False, "ins": True}},
    ((), (("j", {}, "on"), ("jklm", {"a": True, "b": False, "ins": False}, "all")), (), (("x", {"b": True}, None),)),
    1000,
)
LARGE_LINES = [
    "flags a b ins", "outside a ins", "wait 1000", "command all [a on b off ins on]", "command go []",
    "command on [ins on]", "layer", "layer", "j [] on", "jklm [a on b off ins off] all", "layer", "layer", "x [b on] -",
]


def text_of(lines):
    """The lines, each ended by a newline."""
    return "".join(line + "\n" for line in lines)


def plain_settings(settings):
    """The text of an effect or a condition."""
    return "[" + " ".join(f"{flag} {'on' if value else 'off'}" for flag, value in sorted(settings.items())) + "]"


def plain_text(keymap):
    """What [16] says of the text of a keymap."""
    flags, outside, commands, layers, wait = keymap
    lines = [" ".join(("flags", *flags)), " ".join(("outside", *outside)), f"wait {wait}"]
    lines += [f"command {name} {plain_settings(effect)}" for name, effect in sorted(commands.items())]
    for layer in layers:
        lines.append("layer")
        lines += [f"{keys} {plain_settings(condition)} {command or '-'}" for keys, condition, command in layer]
    return text_of(lines)


def loose_map(text):
    """What the text may be meant to say, as a keymap or as something else; an error if it says nothing."""
    lines = text.split("\n")
    commands, layers = {}, []

    def settings(words):
        words = " ".join(words).strip("[]").split()
        return {flag: word == "on" for flag, word in zip(words[::2], words[1::2])}

    for line in lines[3:-1]:
        words = line.split()
        if words[0] == "layer":
            layers.append([])
        elif layers:
            layers[-1].append((words[0], settings(words[1:-1]), None if words[-1] == "-" else words[-1]))
        else:
            commands[words[1]] = settings(words[2:])
    flags, outside, wait = [tuple(line.split()[1:]) for line in lines[:3]]
    return (flags, outside, commands, tuple(map(tuple, layers)), int(wait[0]))


def is_text(text):
    """Whether a keymap is written so."""
    try:
        keymap = loose_map(text)
    except (ValueError, IndexError):
        return False
    return is_map(keymap) and plain_text(keymap) == text


def wrong_line(text):
    """The line that NoText has to name, or None for the text of a keymap."""
    if is_text(text):
        return None
    lines = text.split("\n")[:-1]
    for many in range(len(lines) + 1):
        # The shortest way in which a text may go on behind so many right lines.
        tail = ["flags", "outside", "wait 1"][many:]
        ends = [tail, tail + ["layer"]]
        if not any(is_text(text_of(lines[:many] + end)) for end in ends):
            return many
    return len(lines) + 1


class WriteTest(unittest.TestCase):

    def written(self, keymap, lines):
        self.assertEqual(exactly(call(write_map, keymap)), exactly(text_of(lines)))
        self.assertEqual(exactly(call(read_map, text_of(lines))), exactly(keymap))

    def test_the_document(self):
        self.written(DOCUMENT, LINES)

    def test_no_flags(self):
        self.written(PLAIN, ["flags", "outside", "wait 5", "command down []", "command leave []", "layer",
                             "j [] down", "jk [] leave"])

    def test_three_flags_and_four_layers(self):
        self.written(LARGE, LARGE_LINES)

    def test_empty_layers_and_no_commands(self):
        keymap = ((), (), {}, ((),), 1)
        self.written(keymap, ["flags", "outside", "wait 1", "layer"])
        self.written(with_part(keymap, 3, ((),) * 4), ["flags", "outside", "wait 1"] + ["layer"] * 4)
        self.written(with_part(keymap, 3, ((), (("j", {}, None),))),
                     ["flags", "outside", "wait 1", "layer", "layer", "j [] -"])

    def test_words_that_stand_for_other_lines(self):
        keymap = (("flags", "layer", "on"), ("on",), {"command": {"on": True}, "layer": {"layer": False}, "wait": {}},
                  ((("wait", {"flags": True, "on": False}, "layer"), ("on", {"on": True}, "command"),
                    ("off", {}, "wait")),), 10)
        self.written(keymap, ["flags flags layer on", "outside on", "wait 10", "command command [on on]",
                              "command layer [layer off]", "command wait []", "layer",
                              "wait [flags on on off] layer", "on [on on] command", "off [] wait"])

    def test_waits(self):
        for wait in [1, 9, 10, 11, 99, 100, 101, 999, 1000]:
            lines = [line if line[:5] != "wait " else f"wait {wait}" for line in LINES]
            self.written(with_part(DOCUMENT, 4, wait), lines)

    def test_the_order_of_a_dict_means_nothing(self):
        turned = with_part(LARGE, 2, {
            name: dict(reversed(LARGE[2][name].items())) for name in reversed(LARGE[2])})
        turned = with_part(turned, 3, tuple(
            tuple((keys, dict(reversed(condition.items())), command) for keys, condition, command in layer)
            for layer in LARGE[3]))
        self.assertEqual(call(write_map, turned), text_of(LARGE_LINES))

    def test_the_largest(self):
        flags = ("aaaaaaaa", "bbbbbbbb", "cccccccc")
        effect = {flag: False for flag in flags}
        commands = {letter * 8: effect for letter in "stuvwxyz"}
        layers = tuple(tuple(("jklm", effect, "zzzzzzzz") for _ in range(4)) for _ in range(4))
        keymap = (flags, flags, commands, layers, 1000)
        text = call(write_map, keymap)
        self.assertEqual(text, plain_text(keymap))
        self.assertLess(len(text), 2000)
        self.assertEqual(exactly(call(read_map, text)), exactly(keymap))

    def test_no_keymap(self):
        for thing in [*STRANGE, KEYMAP[:4], with_part(KEYMAP, 4, True), text_of(LINES), list(KEYMAP)]:
            with self.assertRaises(ValueError) as caught:
                call(write_map, thing)
            self.assertIs(type(caught.exception), NoMap)

    def test_drawn(self):
        drawn = random.Random(16)
        for keymap, _ in draw_many(drawn, 300):
            text = call(write_map, keymap)
            self.assertEqual(text, plain_text(keymap))
            again = call(read_map, text)
            self.assertEqual(exactly(again), exactly(keymap))
            self.assertEqual(call(write_map, again), text)


class ReadCase(unittest.TestCase):

    def refused(self, text, line):
        """read_map names this line."""
        with self.subTest(text=repr(text)[-100:]):
            with self.assertRaises(ValueError) as caught:
                call(read_map, text)
            self.assertIs(type(caught.exception), NoText)
            self.assertEqual(exactly(caught.exception.line), exactly(line))

    def wrong(self, lines, place, other):
        """With another line at the place, counted from 1, just this line is wrong."""
        self.refused(text_of(lines[:place - 1] + [other] + lines[place:]), place)
        self.refused(text_of(lines[:place - 1] + [other]), place)

    def right(self, lines, place, other):
        """Another line at the place does no harm."""
        text = text_of(lines[:place - 1] + [other] + lines[place:])
        self.assertEqual(call(write_map, call(read_map, text)), text)


class ReadTest(ReadCase):

    def test_what_is_returned_is_new(self):
        for _ in range(2):
            keymap = call(read_map, text_of(LARGE_LINES))
            self.assertEqual(exactly(keymap), exactly(LARGE))
            dicts = [keymap[2], *keymap[2].values(), *[row[1] for layer in keymap[3] for row in layer]]
            self.assertEqual(len({id(one) for one in dicts}), len(dicts))
            for one in dicts:
                one["more"] = None

    def test_equal_effects_are_dicts_of_their_own(self):
        lines = ["flags a", "outside", "wait 1", "command go [a on]", "command on [a on]", "layer", "j [a on] on",
                 "j [a on] on"]
        keymap = call(read_map, text_of(lines))
        keymap[2]["go"].clear()
        keymap[3][0][0][1].clear()
        self.assertEqual(keymap[2]["on"], {"a": True})
        self.assertEqual(keymap[3][0][1][1], {"a": True})

    def test_other_things_than_strings(self):
        for thing in [*STRANGE, DOCUMENT, LINES, tuple(LINES), [text_of(LINES)]]:
            if not isinstance(thing, str):
                self.refused(thing, 0)

    def test_strange_strings(self):
        for text in [thing for thing in STRANGE if isinstance(thing, str)]:
            self.refused(text, 1)

    def test_two_thousand_characters(self):
        text = text_of(LINES)
        self.refused(text + "x" * (2000 - len(text)), 8)
        self.refused(text + "x" * (2001 - len(text)), 0)
        self.refused(text + "\n" * (2000 - len(text)), 8)
        self.refused(text + "\n" * (2001 - len(text)), 0)
        self.refused("x" * 2000, 1)
        self.refused("x" * 2001, 0)
        self.refused("\n" * 2000, 1)
        self.refused("\n" * 2001, 0)
        self.refused("x" * 3000, 0)
        long = text + "j [] leave\n" * 14
        self.assertTrue(is_map(call(read_map, long)))
        self.refused(long + "j [] leave\n" * 100, 22)
        self.refused(long + "j [] leave\n" * 200, 0)

    def test_an_empty_text_and_lines_missing_at_the_end(self):
        self.refused("", 1)
        for lines in [LINES, LARGE_LINES]:
            for many in range(lines.index("layer") + 1):
                self.refused(text_of(lines[:many]), many + 1)
        for many in range(5, 8):
            self.assertTrue(is_map(call(read_map, text_of(LINES[:many]))))

    def test_a_last_line_without_its_newline(self):
        for lines in [LINES, LARGE_LINES]:
            for many in range(1, len(lines) + 1):
                self.refused(text_of(lines[:many])[:-1], many)
                self.refused(text_of(lines[:many])[:-2], many)
        self.refused("x", 1)
        self.refused(text_of(LINES) + "layer", 8)
        self.refused(text_of(LINES) + " ", 8)
        self.refused(text_of(["flags", "x"])[:-1], 2)
        # A line before it that is wrong comes first.
        self.refused(text_of(["flags", "x", "wait 5"])[:-1], 2)

    def test_an_empty_line(self):
        for lines in [LINES, LARGE_LINES]:
            for place in range(len(lines) + 1):
                self.refused(text_of(lines[:place] + [""] + lines[place:]), place + 1)
                self.refused(text_of(lines[:place] + [" "] + lines[place:]), place + 1)

    def test_a_line_left_out(self):
        for place, line in [(1, 1), (2, 2), (3, 3), (4, 5), (5, 5)]:
            self.refused(text_of(LINES[:place - 1] + LINES[place:]), line)
        for place, line in [(5, None), (4, 9), (6, 8)]:
            text = text_of(LARGE_LINES[:place - 1] + LARGE_LINES[place:])
            self.assertEqual(wrong_line(text), line)
            if line is None:
                self.assertTrue(is_map(call(read_map, text)))
            else:
                self.refused(text, line)

    def test_a_line_twice(self):
        for place in [1, 2, 3, 4]:
            self.refused(text_of(LINES[:place] + LINES[place - 1:]), place + 1)
        for place in [5, 6, 7]:
            text = text_of(LINES[:place] + LINES[place - 1:])
            self.assertEqual(call(write_map, call(read_map, text)), text)

    def test_lines_exchanged(self):
        for place, line in [(1, 1), (2, 2), (3, 3), (4, 5), (5, 5)]:
            lines = list(LINES)
            lines[place - 1], lines[place] = lines[place], lines[place - 1]
            self.refused(text_of(lines), line)
        lines = [*LARGE_LINES[:3], *LARGE_LINES[5:2:-1], *LARGE_LINES[6:]]
        self.refused(text_of(lines), 5)

    def test_flags(self):
        for other in ["flags ins caps", "flags caps caps", "flags caps ins ins", "flags a b c d", "flags Caps ins",
                      "flags cap1 ins", "flags abcdefghi", "flag caps ins", "Flags caps ins", "flagscaps ins",
                      "flags  caps ins", "flags caps  ins", " flags caps ins", "flags caps ins ", "flags\tcaps ins",
                      "flags caps,ins", "caps ins", "flags c\u00e4ps ins", "", "outside", "flags -", "flags []",
                      "flags ", "flags caps\u00a0ins", "flags caps ins\r"]:
            self.wrong(LINES, 1, other)
        for other in ["flags caps ins z", "flags a caps ins", "flags caps i ins"]:
            self.right(LINES, 1, other)
        # What comes behind may then be wrong.
        self.refused(text_of(["flags caps", *LINES[1:]]), 4)
        self.refused(text_of(["flags", *LINES[1:]]), 4)

    def test_outside(self):
        for other in ["outside ins caps", "outside caps caps", "outside x", "outside caps ins x", "outside Caps",
                      "outsid", "Outside", "outside ", " outside", "outside  caps", "outside caps ", "flags caps",
                      "", "outside caps  ins", "outsidecaps", "wait 5", "outside -", "outside\r"]:
            self.wrong(LINES, 2, other)
        for other in ["outside caps", "outside ins", "outside caps ins"]:
            self.right(LINES, 2, other)

    def test_the_wait(self):
        for other in ["wait 0", "wait 1001", "wait 05", "wait 005", "wait 00", "wait +5", "wait -5", "wait 5 ",
                      " wait 5", "wait  5", "wait", "wait ", "wait 5 5", "wait 5.0", "wait 1_0", "wait five", "Wait 5",
                      "wait5", "wait 0x5", "wait \u0665", "wait \uff15", "wait \u00b2", "wait 1\u0660", "wait 10000",
                      "wait " + "9" * 300, "wait 01000", "wait\t5", "wait -0", "wait 5\r", "wait 1e2", "wait \u2075"]:
            self.wrong(LINES, 3, other)
        for other in ["wait 1", "wait 1000", "wait 10", "wait 999", "wait 100"]:
            self.right(LINES, 3, other)

    def test_a_command(self):
        for other in ["command leave [caps off ins off] ", "command  leave [caps off ins off]",
                      "command leave  [caps off ins off]", "command leave [caps off  ins off]",
                      "command leave [caps  off ins off]", "command leave [ caps off ins off]",
                      "command leave [caps off ins off ]", "command leave [ins off caps off]",
                      "command leave [caps off caps off]", "command leave [caps off caps on]",
                      "command leave [x on]", "command leave [caps off ins off x on]", "command leave [caps]",
                      "command leave [caps off ins]", "command leave [caps on off]", "command leave [caps True]",
                      "command leave [caps On]", "command leave [caps 1]", "command leave", "command leave ",
                      "command leave []]", "command leave [[]", "command leave [ ]", "command leave [",
                      "command leave ]", "command leave {}", "command leave caps off", "command leave [caps off",
                      "command leave caps off]", "command [] leave", "command [caps off ins off]", "command",
                      "command - []", "command  []", "command Leave []", "command leaves1 []",
                      "command abcdefghi []", "commands leave []", "Command leave []", "leave []", "jk [] leave",
                      "command leave leave []", "command leave [] []", "command leave []\r", "command leave [] -",
                      "command l\u0435ave []", " command leave []", "command leave [caps,off]"]:
            self.wrong(LINES, 4, other)
        for other in ["command leave []", "command leave [caps on]", "command leave [ins on]",
                      "command leave [caps on ins off]"]:
            self.right(LINES, 4, other)
        self.refused(text_of(LINES).replace("command leave", "command live"), 6)

    def test_commands_ascend(self):
        head = ["flags", "outside", "wait 1", "command b []", "command d []"]
        for other in ["command d []", "command c []", "command b []", "command a []", "command bz []"]:
            self.refused(text_of(head + [other, "layer"]), 6)
            self.refused(text_of(head + [other]), 6)
        for other in ["command da []", "command e []", "command zzzzzzzz []"]:
            self.right(head + [other, "layer"], 6, other)

    def test_a_layer(self):
        for other in ["layer ", " layer", "Layer", "layers", "layer 1", "layer []", "layer [] -", "-", "lay er"]:
            self.wrong(LINES, 5, other)
            self.refused(text_of(LINES + [other]), 8)
        # No command comes behind the first layer.
        self.refused(text_of(LINES[:5] + ["command z []"] + LINES[5:]), 6)
        self.refused(text_of(LINES + ["command z []"]), 8)

    def test_a_binding(self):
        for other in ["jk  [ins on] leave", "jk [ins on]  leave", " jk [ins on] leave", "jk [ins on] leave ",
                      "jk [ins  on] leave", "jk [ ins on] leave", "jk [ins on ] leave", "jk [ins on caps on] leave",
                      "jk [ins on ins on] leave", "jk [x on] leave", "jk [ins] leave", "jk [ins yes] leave",
                      "jk [ins on] gone", "jk [ins on]", "jk [ins on] ", "jk leave", "jk", "jk leave [ins on]",
                      "[ins on] leave", " [ins on] leave", "jklmn [ins on] leave", "Jk [ins on] leave",
                      "j1 [ins on] leave", "jk [ins on] Leave", "jk [ins on] --", "jk [ins on] None", "- [] leave",
                      "jk ins on leave", "jk [ins on leave", "jk ins on] leave", "jk [] [] leave", "jk [ins on]leave",
                      "jk[ins on] leave", "jk [] leave leave", "jk [] - -", "jk []", "jk [] ", "j k [] leave",
                      "jk\t[ins on] leave", "jk [ins on] leave\r", "\u0458k [ins on] leave", "jk []\u2028leave",
                      "layer layer", "command leave []", "wait 5", "j\u00e4 [] -", "jk [] \u2212", "jk [] \u2013"]:
            self.wrong(LINES, 6, other)
        for other in ["jk [] -", "jk [caps on ins off] leave", "j [] leave", "jklm [caps off] -", "layer"]:
            self.right(LINES, 6, other)

    def test_too_many(self):
        head = ["flags", "outside", "wait 1"]
        commands = [f"command {name} []" for name in "abcdefgh"]
        self.assertTrue(is_map(call(read_map, text_of(head + commands + ["layer"]))))
        self.refused(text_of(head + commands + ["command i []", "layer"]), 12)
        self.refused(text_of(head + commands + ["command i []", "command j []", "layer"]), 12)
        self.assertTrue(is_map(call(read_map, text_of(head + ["layer"] * 4))))
        self.refused(text_of(head + ["layer"] * 5), 8)
        self.refused(text_of(head + ["layer"] * 6), 8)
        self.refused(text_of(["flags a b c d", *head[1:], "layer"]), 1)
        for sizes in [(16,), (4, 4, 4, 4), (0, 15, 1), (16, 0), (1, 2, 3, 10)]:
            lines = list(head)
            for size in sizes:
                lines += ["layer"] + ["jk [] -"] * size
            self.assertTrue(is_map(call(read_map, text_of(lines))))
            self.refused(text_of(lines + ["jk [] -"]), len(lines) + 1)
            self.refused(text_of(lines + ["jk [] -"] * 3), len(lines) + 1)

    def test_other_line_ends(self):
        text = text_of(LINES)
        self.refused(text.replace("\n", "\r\n"), 1)
        self.refused(text.replace("\n", "\r"), 1)
        for end in ["\r", "\x0b", "\x0c", "\x1c", "\x85", "\u2028", "\u2029", "\n\r", "\x00"]:
            self.refused(text.replace("\n", end), 2 if end == "\n\r" else 1)
            self.refused(text + end, 8)
            self.refused(text_of(LINES[:3]) + end.join(LINES[3:]) + "\n", 5 if end == "\n\r" else 4)

    def test_other_blanks(self):
        for blank in ["\t", "\u00a0", "\u2003", "  ", "", "\x0b"]:
            for place, line in enumerate(LINES):
                if " " in line:
                    self.refused(text_of(LINES[:place] + [line.replace(" ", blank)] + LINES[place + 1:]), place + 1)

    def test_each_sign_left_out_doubled_or_another(self):
        for lines in [LINES, LARGE_LINES]:
            text = text_of(lines)
            for place in range(len(text)):
                for other in ["", text[place] * 2, "x", " ", "\n", "1", "A", "-", "]", "\u00e9"]:
                    self.judged(text[:place] + other + text[place + 1:])

    def judged(self, text):
        """read_map reads the text, or names the line that the tests find in another way."""
        line = wrong_line(text)
        if line is None:
            keymap = call(read_map, text)
            self.assertTrue(is_map(keymap))
            self.assertEqual(plain_text(keymap), text)
        else:
            self.refused(text, line)
        return line

    def test_drawn_texts_with_faults(self):
        drawn = random.Random(161)
        seen = {True: 0, False: 0}
        for _ in range(800):
            lines = write_map(draw_map(drawn)).split("\n")[:-1]
            for _ in range(drawn.choice([0, 1, 1, 2])):
                place = drawn.randrange(len(lines))
                kind = drawn.choice(["out", "twice", "exchange", "word", "more", "end"])
                if kind == "out" and len(lines) > 1:
                    del lines[place]
                elif kind == "twice":
                    lines.insert(drawn.randint(0, len(lines)), lines[place])
                elif kind == "exchange":
                    other = drawn.randrange(len(lines))
                    lines[place], lines[other] = lines[other], lines[place]
                elif kind == "end":
                    del lines[place + 1:]
                else:
                    words = lines[place].split(" ")
                    at = drawn.randrange(len(words))
                    word = drawn.choice(["", "a", "on", "off]", "[]", "-", "go", "layer", "5", words[at], "[a"])
                    words[at:at + (kind == "word")] = [word]
                    lines[place] = " ".join(words)
            text = text_of(lines)
            seen[self.judged(text) is None] += 1
            self.judged(text[:-1])
        self.assertGreater(min(seen.values()), 100, seen)


if __name__ == "__main__":
    unittest.main()
