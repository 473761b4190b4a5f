"""[14.1], [14.5]: events and scripts as texts."""

import random
import re
import unittest

from greenheld.scripts import event_text, read_event, read_script, script_text
from greenheld.world import is_event, new_world
from tests.reading import Language, changes, place_told
from tests.support import ODD_VALUES, same
from tests.worlds import LINE, event_by_chance, world_town

NUMBER = "(?:0|[1-9][0-9]{0,59})"
SIGNED = "(?:0|-?[1-9][0-9]{0,59})"
PAIR = f"(?:-|{NUMBER}:{NUMBER}(?: {NUMBER}:{NUMBER})*) lets {NUMBER}(?: {NUMBER})*"
EVENT = "(?:" + "|".join((
    f"frame {NUMBER}(?: {NUMBER})* wrong {SIGNED}(?: {SIGNED})*", f"fall {NUMBER}", f"mute {NUMBER} {NUMBER}", f"drop {NUMBER} {NUMBER}",
    f"mode {NUMBER} (?:look|dark|table {PAIR}(?:; {PAIR})*)", f"lamp {NUMBER} (?:red|green) {NUMBER} (?:lit|out)")) + ")"
SAMPLES = ("frame 1 1 wrong 1 -1", "fall 1", "mute 1 1", "drop 1 1", "mode 1 look", "mode 1 dark", "mode 1 table 1:1 1:1 lets 1 1; - lets 1",
           "mode 1 table - lets 1", "lamp 1 red 1 lit", "lamp 1 red 1 out", "lamp 1 green 1 lit", "lamp 1 green 1 out")
ONE = Language(EVENT, SAMPLES)
SCRIPT = Language(f"(?:{EVENT}(?:\n{EVENT})*)?", SAMPLES)


def numbers(text):
    return tuple(int(word) for word in text.split(" "))


def plain_pair(text):
    plan, lets = text.split(" lets ")
    return (() if plan == "-" else tuple(numbers(part.replace(":", " ")) for part in plan.split(" ")), numbers(lets))


def plain_read_event(text):
    """The event of a text that can be read, cut at its words."""
    word, rest = text.split(" ", 1)
    if word == "frame":
        return (word,) + tuple(map(numbers, rest.split(" wrong ")))
    if word == "mode":
        x, mode, *told = rest.split(" ", 2)
        return (word, int(x), (mode, *[tuple(map(plain_pair, part.split("; "))) for part in told]))
    if word == "lamp":
        x, colour, i, lit = rest.split(" ")
        return (word, int(x), (colour, int(i), lit == "lit"))
    return (word,) + numbers(rest)


def plain_read_script(text):
    return [plain_read_event(line) for line in text.split("\n")] if text else []


READERS = {read_event: (ONE, plain_read_event), read_script: (SCRIPT, plain_read_script)}


def written_events(chance, many):
    """Events of which all can be written."""
    found = []
    while len(found) < many:
        town = world_town(chance)
        event = event_by_chance(chance, town, frames=0.25, lamps=0.15)
        if event[0] != "lamp" or type(event[2]) is tuple and len(event[2]) == 3 and event[2][0] in ("red", "green"):
            found.append(event)
    return found


class Writing(unittest.TestCase):
    def test_lines(self):
        for event, text in ((("frame", (1, 0), (0, -2)), "frame 1 0 wrong 0 -2"), (("frame", (7,), (-10 ** 59,)), f"frame 7 wrong -{10 ** 59}"),
                            (("fall", 3), "fall 3"), (("mute", 0, 12), "mute 0 12"), (("drop", 1, 4), "drop 1 4"), (("mode", 0, ("look",)), "mode 0 look"),
                            (("mode", 2, ("dark",)), "mode 2 dark"), (("mode", 0, ("table", (((), (0,)),))), "mode 0 table - lets 0"),
                            (("mode", 0, ("table", ((((0, 3), (1, 2)), (2, 1)), ((), (0, 0))))), "mode 0 table 0:3 1:2 lets 2 1; - lets 0 0"),
                            (("lamp", 0, ("red", 1, True)), "lamp 0 red 1 lit"), (("lamp", 0, ("red", 1, False)), "lamp 0 red 1 out"),
                            (("lamp", 5, ("green", 0, True)), "lamp 5 green 0 lit"), (("lamp", 5, ("green", 0, False)), "lamp 5 green 0 out")):
            self.assertEqual(event_text(event), text)
            self.assertTrue(same(read_event(text), event))
        self.assertEqual([script_text([]), script_text(()), script_text([("fall", 0)]), script_text([("fall", 0), ("mute", 0, 1)])],
                         ["", "", "fall 0", "fall 0\nmute 0 1"])

    def test_written_and_read_again(self):
        chance = random.Random(1)
        events = written_events(chance, 400)
        for event in events:
            text = event_text(event)
            self.assertTrue(ONE.can_be_read(text), text)
            self.assertTrue(same(read_event(text), event) and same(plain_read_event(text), event))
        for k in range(0, 400, 20):
            text = script_text(events[k:k + 20])
            self.assertEqual(text, "\n".join(map(event_text, events[k:k + 20])))
            self.assertTrue(same(read_script(text), events[k:k + 20]) and same(read_script(text), plain_read_script(text)))


class Reading(unittest.TestCase):
    def read_or_refused(self, read, text):
        language, plain = READERS[read]
        told = place_told(read, text)
        if language.can_be_read(text):
            self.assertIsNone(told, text)
            self.assertTrue(same(read(text), plain(text)), text)
            self.assertEqual((event_text if read is read_event else script_text)(read(text)), text)
        else:
            self.assertTrue(same(told, language.place(text)), (text, told))

    def test_texts_with_one_sign_changed(self):
        for text in ("frame 1 0 wrong 0 -2", "frame 10 wrong 0", "fall 0", "mute 10 0", "drop 1 24", "mode 1 look", "mode 0 dark",
                     "mode 0 table 0:3 1:20 lets 2 0; - lets 0", "mode 12 table - lets 1", "lamp 0 red 1 out", "lamp 1 green 0 lit"):
            for changed in [text] + changes(text, "\n 0-9:;/t"):
                self.read_or_refused(read_event, changed)

    def test_scripts_with_one_sign_changed(self):
        for text in ("fall 0\nmute 0 12\ndrop 1 4", "frame 0 wrong -1\nmode 0 table 0:1 lets 0; - lets 0\nlamp 0 red 0 lit", "mode 0 look\nfall 1", "fall 7"):
            for changed in [text] + changes(text, "\n 0-;f"):
                self.read_or_refused(read_script, changed)

    def test_texts_of_few_words(self):
        words = ("frame ", "fall ", "mute ", "drop ", "mode ", "lamp ", "0", "1", " ", "-", ":", "; ", " wrong ", " lets ", "look", "dark", "table ", "red ",
                 "green ", " lit", " out", "\n", "- lets 0", "0:1", "fall 0")
        chance = random.Random(2)
        for _ in range(4000):
            text = "".join(chance.choice(words) for _ in range(chance.randint(0, 8)))
            for read in READERS:
                self.read_or_refused(read, text)

    def test_drawn_events_with_signs_changed(self):
        chance = random.Random(3)
        for event in written_events(chance, 60):
            text = event_text(event)
            for _ in range(25):
                k = chance.randrange(len(text) + 1)
                sign = chance.choice(" 0123-:;\nalwt")
                for changed in (text[:k] + sign + text[k:], text[:k] + sign + text[k + 1:], text[:k] + text[k + 1:], text[:k]):
                    self.read_or_refused(read_event, changed)
                    self.read_or_refused(read_script, "fall 0\n" + changed + "\nmute 0 1")

    def test_places(self):
        for text, place in (("", 0), ("x", 0), ("f", 1), ("fr", 2), ("fx", 1), ("fal", 3), ("fall", 4), ("fall ", 5), ("fall  0", 5), ("fall x", 5), ("fall 00", 6),
                            ("fall -1", 5), ("fall 0 ", 6), ("fall 0\n", 6), (" fall 0", 0), ("Fall 0", 0), ("m", 1), ("mo", 2), ("mute 0", 6), ("mute 0 ", 7),
                            ("mute 0 x", 7), ("mute 0\n1", 6), ("frame 1 0 wron", 14), ("frame 1 0 wrong", 15), ("frame 1 0 wrong ", 16), ("frame 1  0 wrong 0", 8),
                            ("frame 1 x", 8), ("frame 1 w", 9), ("frame 1 -2 wrong 0", 8), ("frame wrong 0", 6), ("frame 1 wrong -", 15), ("frame 1 wrong -0", 15),
                            ("frame 1 wrong --1", 15), ("frame 1 wrong 0 ", 16), ("frame 1 wrong 0 -", 17), ("frame 1 wrong 0 x", 16), ("frame 1 wrong 0x", 15),
                            ("mode 0 tab", 10), ("mode 0 table", 12), ("mode 0 tables", 12), ("mode 0 table ", 13), ("mode 0 table x", 13), ("mode 0 table -", 14),
                            ("mode 0 table 0", 14), ("mode 0 table 0 lets 1", 14), ("mode 0 table 0:", 15), ("mode 0 table 0:x", 15), ("mode 0 table 0:1", 16),
                            ("mode 0 table 0:1 ", 17), ("mode 0 table 0:1 x", 17), ("mode 0 table 0:1 lex", 19), ("mode 0 table 0:1 2 lets 0", 18),
                            ("mode 0 table - 0:1 lets 0", 15), ("mode 0 table - lets", 19), ("mode 0 table - lets ", 20), ("mode 0 table - lets -", 20),
                            ("mode 0 table - lets 0;", 22), ("mode 0 table - lets 0; ", 23), ("mode 0 table - lets 0;x", 22), ("mode 0 table - lets 0 ; - lets 0", 22),
                            ("mode 0 table - lets 0; x", 23), ("mode 0 darkx", 11), ("mode 0 d", 8), ("mode 0 ", 7), ("mode 0", 6), ("lamp 0 red 1 off", 14),
                            ("lamp 0 red 1 l", 14), ("lamp 0 red 1 lit ", 16), ("lamp 0 blue 1 lit", 7), ("lamp 0 redd", 10), ("lamp 0 green  1 lit", 13), ("lamp 0 g", 8)):
            self.assertTrue(same(place_told(read_event, text), place), (text, place_told(read_event, text)))
            self.assertEqual(ONE.place(text), place, text)

    def test_places_are_counted_in_the_whole_text(self):
        self.assertEqual([place_told(read_script, text) for text in (
            "fall 0\n", "\nfall 0", "fall 0\n\nfall 0", "fall 0\nfall x", "fall 0\nlamp 0 red 1 off", "fall 0 \nfall 0", "fall 0\nfall 0\n", "\n", " ", "fall 0\r\nfall 0")],
            [7, 0, 7, 12, 21, 6, 14, 0, 0, 6])
        self.assertEqual([read_script(""), read_script("fall 0")], [[], [("fall", 0)]])

    def test_sixty_digits_and_sixty_one(self):
        long, longer = "9" * 60, "1" + "0" * 60
        value = int(long)
        for text, event in (("fall {}", ("fall", value)), ("mute 0 {}", ("mute", 0, value)), ("drop {} 1", ("drop", value, 1)),
                            ("frame {} 0 wrong 1", ("frame", (value, 0), (1,))), ("frame 0 wrong 1 -{}", ("frame", (0,), (1, -value))),
                            ("mode {} dark", ("mode", value, ("dark",))), ("mode 0 table {}:1 lets 0", ("mode", 0, ("table", ((((value, 1),), (0,)),)))),
                            ("mode 0 table 1:{} lets 0", ("mode", 0, ("table", ((((1, value),), (0,)),)))), ("mode 0 table - lets 0 {}", ("mode", 0, ("table", (((), (0, value)),)))),
                            ("lamp 0 red {} lit", ("lamp", 0, ("red", value, True)))):
            self.assertTrue(same(read_event(text.format(long)), event))
            self.assertEqual(event_text(event), text.format(long))
            self.assertEqual(place_told(read_event, text.format(longer)), text.index("{") + 60)
            self.read_or_refused(read_script, text.format(longer))

    def test_one_number_and_several(self):
        self.assertEqual([read_event("frame 0 wrong 0 1 2"), read_event("frame 5 4 3 wrong -9"), read_event("mode 0 table 0:0 0:0 lets 0 0 0")],
                         [("frame", (0,), (0, 1, 2)), ("frame", (5, 4, 3), (-9,)), ("mode", 0, ("table", ((((0, 0), (0, 0)), (0, 0, 0)),)))])
        many = "frame" + " 1" * 2000 + " wrong" + " -1" * 1000
        self.assertEqual(read_event(many), ("frame", (1,) * 2000, (-1,) * 1000))
        self.assertEqual(place_told(read_event, many + "\n"), len(many))
        self.assertEqual([place_told(read_script, many + "\n"), len(read_script("\n".join(["fall 0"] * 1100)))], [len(many) + 1, 1100])

    def test_what_is_read_need_be_no_event(self):
        world = new_world(LINE, (0, 0))
        for text in ("fall 9", "frame 1 wrong 1", "mode 0 table 0:9 lets 0 0", "mode 0 table 7:1 lets 0 0", "mode 0 table 0:5 lets 9 9", "lamp 8 red 1 lit", "drop 9 1", "mode 0 table 0:0 lets 0 0"):
            self.assertIs(is_event(world, read_event(text)), False, text)
        self.assertIs(is_event(world, read_event("lamp 0 red 99 lit")), True)

    def test_any_value(self):
        for read in READERS:
            for value in ODD_VALUES:
                if isinstance(value, str):
                    self.read_or_refused(read, value)
                else:
                    self.assertTrue(same(place_told(read, value), 0), value)

    def test_patterns_are_of_the_language(self):
        self.assertIsNone(re.fullmatch(EVENT, "fall 01"))
        self.assertTrue(all(ONE.can_be_read(sample) and SCRIPT.can_be_read(sample) for sample in SAMPLES))
        self.assertTrue(SCRIPT.can_be_read("") and not ONE.can_be_read(""))


if __name__ == "__main__":
    unittest.main()
