"""[14.2], [14.3], [14.5]: a house, its deeds, and what it shows of its world."""

import copy
import random
import unittest

from greenheld.errors import BadEvent, NothingDone
from greenheld.flows import carried
from greenheld.house import House
from greenheld.world import judge_world, new_world, orders_now, played
from tests.plain import row_by_chance
from tests.support import ODD_VALUES, same, within
from tests.worlds import LINE, PlainWorld, event_by_chance, plain_is_event, world_town

FRAME = ("frame", (1, 0), (0, 0))


class PlainHouse:
    """Deeds that stand done, and those that are taken back, the last one first."""

    def __init__(self, town, state, done=(), undone=()):
        self.town, self.first = town, state
        self.done, self.undone = list(done), list(undone)

    def do(self, deed):
        if not plain_is_event(self.town, deed):
            return BadEvent
        self.done.append(copy.deepcopy(deed))
        self.undone = []
        return len(self.done)

    def undo(self):
        if not self.done:
            return NothingDone
        self.undone.append(self.done.pop())
        return len(self.done)

    def redo(self):
        if not self.undone:
            return NothingDone
        self.done.append(self.undone.pop())
        return len(self.done)

    def twin(self):
        return PlainHouse(self.town, self.first, self.done, self.undone)

    def world(self):
        plain = PlainWorld(self.town, self.first)
        for deed in self.done:
            plain.happen(deed)
        return plain


def answer(call, *told):
    """What the call returns, or the kind of its error."""
    try:
        return call(*told)
    except (BadEvent, NothingDone) as error:
        assert not isinstance(error, BadEvent) or same(error.number, 0)
        return type(error)


class Deeds(unittest.TestCase):
    def alike(self, house, plain):
        world = plain.world()
        self.assertTrue(same(house.deeds(), plain.done))
        self.assertTrue(same(house.world(), world.view()))
        self.assertTrue(same(house.world(), played(new_world(plain.town, plain.first), plain.done)))
        self.assertTrue(same(house.state(), tuple(world.state)))
        self.assertTrue(same(house.look(), tuple(world.look)))
        self.assertTrue(same(house.stand(), (world.frames, world.came, world.gone, sum(world.state))))
        self.assertTrue(same(house.modes(), tuple(mode[0] for mode in world.modes)))
        self.assertTrue(same(house.shown(), tuple((tale or [()])[-1] for tale in world.tales)))
        self.assertTrue(same(house.orders(), world.orders()))
        self.assertTrue(same(house.orders(), orders_now(house.world())))
        self.assertIs(house.safe(), True)
        self.assertIsNone(judge_world(house.world()))

    def test_against_plain_houses_and_their_twins(self):
        chance = random.Random(1)
        seen = []
        for _ in range(60):
            town = world_town(chance)
            state = row_by_chance(chance, town[0], 9)
            pairs = [(House(town, state), PlainHouse(town, state))]
            for _ in range(18):
                house, plain = chance.choice(pairs)
                word = chance.choice(("do",) * 6 + ("undo",) * 4 + ("redo",) * 3 + ("twin",))
                if word == "twin":
                    pairs.append((house.twin(), plain.twin()))
                    self.assertIsInstance(pairs[-1][0], House)
                elif word == "do":
                    deed = event_by_chance(chance, town, frames=0.5)
                    if chance.random() < 0.15:
                        deed = chance.choice(ODD_VALUES + tuple(within(deed)))
                    told = answer(house.do, deed)
                    self.assertTrue(same(told, plain.do(deed)))
                    seen.append(told if isinstance(told, type) else word)
                else:
                    told = answer(getattr(house, word))
                    self.assertTrue(same(told, getattr(plain, word)()))
                    seen.append(told if isinstance(told, type) else word)
                self.alike(house, plain)
            for house, plain in pairs:
                self.alike(house, plain)
        self.assertGreater(min(seen.count(word) for word in ("do", "undo", "redo", BadEvent, NothingDone)), 20)

    def test_undo_and_redo_at_their_ends(self):
        house = House(LINE, (5, 0))
        self.assertEqual([answer(house.undo), answer(house.redo), house.do(FRAME), answer(house.redo), house.undo(), answer(house.undo), house.redo(),
                          answer(house.redo), house.do(("fall", 0)), house.undo(), house.undo(), house.redo(), house.redo(), answer(house.redo)],
                         [NothingDone, NothingDone, 1, NothingDone, 0, NothingDone, 1, NothingDone, 2, 1, 0, 1, 2, NothingDone])

    def test_do_behind_undo_leaves_nothing_to_redo(self):
        house = House(LINE, (5, 0))
        for _ in range(3):
            house.do(FRAME)
        house.undo()
        house.undo()
        self.assertEqual([answer(house.do, None), house.redo(), house.undo(), house.do(("fall", 0)), answer(house.redo), house.deeds()],
                         [BadEvent, 2, 1, 2, NothingDone, [FRAME, ("fall", 0)]])

    def test_wrong_deeds_leave_all_as_it_was(self):
        house = House(LINE, (5, 0))
        house.do(FRAME)
        house.do(("mode", 0, ("dark",)))
        house.undo()
        before = copy.deepcopy(house.world())
        for deed in list(ODD_VALUES) + [["fall", 0], ("fall", 1), ("frame", (1,), (0, 0)), ("mode", 0, ("table", ())), ("drop", 2, 1), ("undo",)]:
            with self.assertRaises(BadEvent) as caught:
                house.do(deed)
            self.assertTrue(same(caught.exception.number, 0))
            self.assertTrue(same(house.world(), before) and same(house.deeds(), [FRAME]))
        self.assertEqual([house.redo(), house.modes()], [2, ("dark",)])

    def test_deeds_are_the_houses_own(self):
        house = House(LINE, (5, 0))
        value = ["red", {"a": [1]}]
        house.do(("lamp", 0, value))
        twin = house.twin()
        value.append(5)
        value[1]["a"].append(2)
        told = house.deeds()
        told[0][2].append(6)
        told[0][2][1]["b"] = 7
        told.append(FRAME)
        for one in (house, twin):
            self.assertTrue(same(one.deeds(), [("lamp", 0, ["red", {"a": [1]}])]))
            one.undo()
            one.redo()
            self.assertTrue(same(one.deeds(), [("lamp", 0, ["red", {"a": [1]}])]))

    def test_twins_go_their_own_way(self):
        house = House(LINE, (5, 0))
        house.do(FRAME)
        house.do(("drop", 1, 4))
        house.undo()
        twin = house.twin()
        self.assertEqual([twin.deeds(), twin.stand(), twin.redo(), twin.state(), house.state(), house.deeds()],
                         [[FRAME], (1, 1, 0, 6), 2, (3, 7), (3, 3), [FRAME]])
        self.assertEqual([answer(twin.redo), house.redo(), house.undo(), house.do(("fall", 0)), answer(house.redo), twin.undo(), twin.redo(), twin.state()],
                         [NothingDone, 2, 1, 2, NothingDone, 1, 2, (3, 7)])
        again = twin.twin()
        twin.undo()
        twin.undo()
        self.assertEqual([again.deeds(), twin.deeds(), house.deeds(), twin.twin().redo()], [[FRAME, ("drop", 1, 4)], [], [FRAME, ("fall", 0)], 1])

    def test_sixty_deeds(self):
        house = House(LINE, (5, 0))
        self.assertEqual([house.do(FRAME) for _ in range(60)], list(range(1, 61)))
        self.assertEqual([house.undo() for _ in range(60)], list(range(59, -1, -1)))
        self.assertTrue(same(house.world(), new_world(LINE, (5, 0))))
        self.assertEqual([house.redo() for _ in range(60)], list(range(1, 61)))
        self.assertTrue(same(house.world(), played(new_world(LINE, (5, 0)), [FRAME] * 60)))


class Shows(unittest.TestCase):
    def test_beginning(self):
        house = House(LINE, (5, 0))
        self.assertEqual([house.state(), house.look(), house.stand(), house.modes(), house.shown(), house.safe(), house.deeds()],
                         [(5, 0), (5, 0), (0, 0, 0, 5), ("look",), ((),), True, []])
        self.assertTrue(same(house.world(), new_world(LINE, (5, 0))))

    def test_shown_is_the_last_tick(self):
        town = (1, ((((0, None),), (), 4),))
        house = House(town, (9,))
        house.do(("frame", (0,), (0,)))
        self.assertEqual([house.shown(), house.stand()], [((0,),), (1, 0, 3, 6)])
        house.do(("mode", 0, ("table", ((((0, 3),), (2,)),))))
        house.do(("frame", (0,), (0,)))
        self.assertEqual([house.shown(), house.modes(), house.stand()], [((),), ("table",), (2, 0, 5, 4)])

    def test_holds(self):
        chance = random.Random(2)
        told = []
        for _ in range(40):
            town = world_town(chance)
            house, counts = House(town, (0,) * town[0]), row_by_chance(chance, town[0], 4)
            told.append(house.holds(counts))
            self.assertIs(told[-1], carried(town, counts)[0] == "carried")
        self.assertGreater(min(told.count(True), told.count(False)), 5)


if __name__ == "__main__":
    unittest.main()
