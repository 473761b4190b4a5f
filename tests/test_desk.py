"""[14.4], [14.5]: a desk, line by line."""

import random
import re
import unittest

from greenheld.desk import Desk
from greenheld.flows import carried
from greenheld.house import House
from greenheld.scripts import event_text
from greenheld.texts import counts_text, town_text
from tests.plain import row_by_chance
from tests.reading import changes
from tests.support import ODD_VALUES, TOWN, same
from tests.test_house import PlainHouse
from tests.test_scripts import ONE, plain_read_event
from tests.worlds import LINE, event_by_chance, plain_is_event, world_town

WORDS = ("state", "look", "stand", "safe", "town", "modes", "shown", "orders", "undo", "redo")


def joined(numbers):
    return " ".join(map(str, numbers))


def plain_answer(plain, line):
    """What the desk of a plain house answers."""
    world = plain.world()
    if type(line) is not str:
        return "what"
    if line in ("undo", "redo"):
        told = plain.undo() if line == "undo" else plain.redo()
        return "refused" if isinstance(told, type) else str(told)
    if line in ("state", "look"):
        return joined(world.state if line == "state" else world.look)
    if line == "stand":
        return f"frame {world.frames} came {world.came} gone {world.gone} cars {sum(world.state)}"
    if line == "modes":
        return " ".join(mode[0] for mode in world.modes)
    if line == "shown":
        return "\n".join(joined(tale[-1]) if tale and tale[-1] else "-" for tale in world.tales)
    if line == "orders":
        return "\n".join((" ".join(f"{s}:{ticks}" for s, ticks in plan) or "-") + " lets " + joined(lets) for plan, lets in world.orders())
    if line in ("safe", "town"):
        return "yes" if line == "safe" else town_text(plain.town)
    if re.fullmatch(rf"counts( (0|[1-9][0-9]{{0,8}})){{{plain.town[0]}}}", line):
        return "carried" if carried(plain.town, tuple(map(int, line.split(" ")[1:])))[0] == "carried" else "grows"
    if ONE.can_be_read(line) and plain_is_event(plain.town, plain_read_event(line)):
        return str(plain.do(plain_read_event(line)))
    return "what"


def line_by_chance(chance, town):
    kind = chance.random()
    if kind < 0.4:
        return chance.choice(WORDS)
    if kind < 0.8:
        event = event_by_chance(chance, chance.choice((town, town, town, world_town(chance))), frames=0.5)
        if event[0] != "lamp" or type(event[2]) is tuple and len(event[2]) == 3 and event[2][0] in ("red", "green"):
            text = event_text(event)
            return chance.choice(changes(text, " 09-")) if chance.random() < 0.2 else text
    if kind < 0.9:
        return counts_text(row_by_chance(chance, town[0] + chance.choice((0, 0, 0, 1)), chance.choice((1, 4))))
    return chance.choice(ODD_VALUES + ("", "State", "state ", "undo 1", "counts", "\n"))


class Lines(unittest.TestCase):
    def test_each_line_against_a_plain_desk(self):
        chance = random.Random(1)
        told = []
        for _ in range(120):
            town = world_town(chance)
            state = row_by_chance(chance, town[0], 9)
            desk, plain = Desk(town, state), PlainHouse(town, state)
            for _ in range(20):
                line = line_by_chance(chance, town)
                answer = desk.say(line)
                self.assertTrue(same(answer, plain_answer(plain, line)), (town, line))
                self.assertTrue(same(desk.house().deeds(), plain.done))
                told.append(answer)
        self.assertGreater(min(told.count(word) for word in ("what", "refused", "carried", "grows", "yes")), 20)

    def test_words(self):
        desk = Desk(TOWN, (7, 0, 2, 1))
        self.assertEqual([desk.say(word) for word in WORDS],
                         ["7 0 2 1", "7 0 2 1", "frame 0 came 0 gone 0 cars 10", "yes", town_text(TOWN), "look look", "-\n-",
                          "0:10 lets 9 0 0\n0:12 lets 11 0", "refused", "refused"])
        self.assertEqual([desk.say("drop 1 30"), desk.say("mode 1 dark"), desk.say("frame 0 1 0 0 wrong 0 0 -1 9"), desk.say("modes"), desk.say("look"),
                          desk.say("state"), desk.say("stand"), desk.say("orders")],
                         ["1", "2", "3", "look dark", "1 1 7 10", "1 31 8 1", "frame 1 came 31 gone 0 cars 41", "1:9 lets 0 8 0\n- lets 0 0"])

    def test_shown_and_orders_in_lines(self):
        town = (3, ((((0, None), (1, None)), (), 4), (((2, None),), (), 4)))
        desk = Desk(town, (9, 9, 9))
        self.assertEqual([desk.say("orders"), desk.say("shown"), desk.say("frame 0 0 0 wrong 0 0 0"), desk.say("shown"), desk.say("mode 0 dark"),
                          desk.say("mode 1 table 0:1 0:1 lets 0"), desk.say("mode 1 table 0:1 lets 0; - lets 0"), desk.say("orders"), desk.say("frame 0 0 0 wrong 0 0 0"), desk.say("shown")],
                         ["0:4 lets 3 3\n0:4 lets 3", "-\n-", "1", "0 1\n0", "2", "what", "3", "- lets 0 0\n- lets 0", "4", "-\n-"])

    def test_undo_and_redo(self):
        desk = Desk(LINE, (5, 0))
        self.assertEqual([desk.say(line) for line in ("redo", "fall 0", "drop 0 1", "redo", "undo", "undo", "undo", "redo", "redo", "redo", "undo", "fall 0", "redo")],
                         ["refused", "1", "2", "refused", "1", "0", "refused", "1", "2", "refused", "1", "2", "refused"])

    def test_counts_of_this_town_and_of_another(self):
        desk = Desk(LINE, (5, 0))
        self.assertEqual([desk.say(line) for line in ("counts 1 0", "counts 0 0", "counts 9 0", "counts 999999999 0", "counts 1", "counts 1 0 0", "counts", "counts ",
                                                      "counts 1 0 ", "counts 1  0", "counts 01 0", "counts 1000000000 0", "counts -1 0", "counts 1/2 0", "counts 1 0\n", "Counts 1 0")],
                         ["carried", "carried", "grows", "grows"] + ["what"] * 12)

    def test_what(self):
        desk = Desk(LINE, (5, 0))
        for line in list(ODD_VALUES) + ["", " ", "what", "fall 1", "fall 0 ", "fall 0\nfall 0", "frame 1 wrong 0 0", "frame 1 0 wrong 0", "mode 0 table 0:6 lets 0 0",
                                        "mode 0 table 0:5 lets 5 0", "drop 2 1", "mute 1 1", "lamp 1 red 0 out", "State", "state ", "state\n", " state", "undo\n", ("state",), ["undo"]]:
            self.assertTrue(same(desk.say(line), "what"), line)
        self.assertEqual([desk.house().deeds(), desk.say("lamp 0 red 7 out")], [[], "1"])

    def test_the_house_itself(self):
        desk = Desk(LINE, (5, 0))
        house = desk.house()
        self.assertIsInstance(house, House)
        self.assertIs(desk.house(), house)
        self.assertEqual([house.do(("drop", 0, 2)), desk.say("state"), desk.say("undo"), house.state(), desk.say("redo"), house.undo(), desk.say("undo")],
                         [1, "7 0", "0", (5, 0), "1", 0, "refused"])
        other = Desk(LINE, (5, 0))
        other.say("drop 1 9")
        self.assertEqual([desk.say("state"), other.say("state"), house is other.house()], ["5 0", "5 9", False])


if __name__ == "__main__":
    unittest.main()
