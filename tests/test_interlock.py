"""[10.1] to [10.4], [10.8]: the interlock, wishes and lamps that it hears, and the greens that it shows."""

import copy
import random
import unittest

from greenheld.interlock import (foes_of, is_wish, lamp_heard, may_begin_at, new_interlock, next_shown,
                                 widest_clearance, wish_heard)
from tests.locks import PlainLock, crossings, happenings_by_chance, plain_is_wish, waits, widest
from tests.support import EAST, ODD_VALUES, same, within

# 1 waits 2 ticks behind 0, 0 waits 1 tick behind 1; 2 crosses none.
C = (((0, None), (1, None), (2, None)), ((0, 1, 2, 1),), 8)
ALONE = (((0, None),), (), 4)
AT_ONCE = (((0, None), (1, None)), ((0, 1, 0, 0),), 4)
WIDE = (((0, None), (1, None)), ((0, 1, 12, 0),), 12)
NEW = {"time": 0, "greens": (), "ended": (), "dark": (), "faint": (), "taken": 0, "wished": (), "until": 0}


def ticked(crossing, interlock, many):
    """The interlock behind so many ticks, and what they showed."""
    found = []
    for _ in range(many):
        interlock, greens = next_shown(crossing, interlock)
        found.append(greens)
    return interlock, found


def wishing(crossing, interlock, movements, ticks=12):
    return wish_heard(crossing, interlock, (interlock["taken"] + 1, movements, ticks))


class Crossings(unittest.TestCase):
    def test_foes_and_clearances(self):
        chance = random.Random(1)
        for crossing in crossings(chance, 60) + [C, EAST, ALONE]:
            for i in range(len(crossing[0])):
                foes = tuple(j for j in range(len(crossing[0])) if waits(crossing, i, j) is not None)
                self.assertTrue(same(foes_of(crossing, i), foes))
            self.assertEqual(widest_clearance(crossing), widest(crossing))
        self.assertEqual([foes_of(EAST, 0), foes_of(EAST, 1), widest_clearance(EAST), foes_of(ALONE, 0), widest_clearance(ALONE)],
                         [(1, 2), (0,), 3, (), 0])
        self.assertEqual([widest_clearance(AT_ONCE), widest_clearance(WIDE)], [0, 12])

    def test_new_ones(self):
        for crossing in (C, ALONE, EAST):
            self.assertTrue(same(new_interlock(crossing), NEW))
            new_interlock(crossing)["time"] = 9
            self.assertEqual(new_interlock(crossing), NEW)


class Wishes(unittest.TestCase):
    def test_what_is_one(self):
        for value, right in (((1, (0, 2), 3), True), ((1, (), 1), True), ((10 ** 60 - 1, (0, 1, 2), 12), True), ((1, (2,), 13), False),
                             ((1, (2,), 0), False), ((0, (2,), 1), False), ((-1, (2,), 1), False), ((1, (3,), 1), False),
                             ((1, (-1,), 1), False), ((1, (2, 0), 1), False), ((1, (0, 0), 1), False), ((1, [0], 1), False),
                             ([1, (0,), 1], False), ((1, (0,)), False), ((1, (0,), 1, 1), False), ((True, (0,), 1), False),
                             ((1, (False,), 1), False), ((1, (0,), True), False), ((1, (0, True), 1), False), ((1, None, 1), False),
                             ((None, (0,), 1), False), (("1", (0,), 1), False), ((1, 0, 1), False), ((1, (0, (1,)), 1), False)):
            self.assertIs(is_wish(C, value), right, value)

    def test_any_value(self):
        values = list(ODD_VALUES) + within((3, (0, 2), 4))
        values += [part for odd in ODD_VALUES for part in ((odd, (0,), 1), (1, odd, 1), (1, (0,), odd), (1, (odd,), 1))]
        here, _ = ticked(C, wish_heard(C, NEW, (2, (0, 1), 5)), 4)
        for value in values:
            self.assertIs(is_wish(C, value), plain_is_wish(C, value), value)
            told = wish_heard(C, here, value)
            if plain_is_wish(C, value) and value[0] > 2:
                self.assertEqual(told, {**here, "taken": value[0], "wished": value[1], "until": 4 + value[2]})
            else:
                self.assertTrue(same(told, here), value)

    def test_ticks_1_and_12(self):
        for ticks in (1, 12):
            here = wish_heard(ALONE, NEW, (1, (0,), ticks))
            self.assertEqual(ticked(ALONE, here, 14)[1], [(0,)] * ticks + [()] * (14 - ticks))

    def test_doubled_late_and_broken(self):
        here = wish_heard(C, NEW, (5, (0, 2), 4))
        later, _ = ticked(C, here, 3)
        for value in ((5, (0, 2), 4), (5, (1,), 9), (4, (1,), 9), (1, (), 1), [6, (1,), 9], (6, (1,), 13), (6, (1, 1), 9), None):
            self.assertEqual(wish_heard(C, later, value), later)
        self.assertEqual(wish_heard(C, later, (6, (1,), 9)), {**later, "taken": 6, "wished": (1,), "until": 12})
        # A new wish also shortens what an older one wants.
        self.assertEqual(ticked(ALONE, wish_heard(ALONE, wish_heard(ALONE, NEW, (1, (0,), 9)), (2, (), 1)), 4)[1], [()] * 4)

    def test_old_one_and_new_one_stay_apart(self):
        before = copy.deepcopy(NEW)
        for told in (wish_heard(C, before, (1, (0,), 3)), wish_heard(C, before, None), lamp_heard(C, before, ("red", 0, False)),
                     lamp_heard(C, before, None), next_shown(C, before)[0]):
            self.assertIsNot(told, before)
            self.assertEqual(set(told), set(NEW))
            for field in list(told):
                told[field] = "changed"
            self.assertEqual(before, NEW)


class Lamps(unittest.TestCase):
    def test_told_out_and_lit_again(self):
        here = NEW
        for value, field, numbers in ((("red", 2, False), "dark", (2,)), (("red", 0, False), "dark", (0, 2)),
                                      (("red", 0, False), "dark", (0, 2)), (("green", 1, False), "faint", (1,)),
                                      (("red", 2, True), "dark", (0,)), (("green", 0, True), "faint", (1,)),
                                      (("green", 1, True), "faint", ())):
            here = lamp_heard(C, here, value)
            self.assertTrue(same(here[field], numbers))

    def test_red_lit_again_of_a_movement_that_is_not_green(self):
        here, shown = ticked(C, wishing(C, NEW, (0, 2)), 4)
        self.assertEqual(shown, [(), (), (0, 2), (0, 2)])
        dark = lamp_heard(C, lamp_heard(C, here, ("red", 1, False)), ("red", 1, True))
        self.assertEqual(dark, {**here, "ended": ((1, 4),)})
        dark = lamp_heard(C, here, ("red", 1, False))
        later, _ = ticked(C, dark, 2)
        self.assertEqual([later["ended"], lamp_heard(C, later, ("red", 1, True))["ended"]], [((0, 4),), ((0, 4), (1, 6))])
        # Only if it was among the dark ones; and a green lamp tells nothing of the kind.
        self.assertEqual([lamp_heard(C, here, ("red", 1, True)), lamp_heard(C, here, ("green", 1, True))], [here, here])
        faint = lamp_heard(C, later, ("green", 0, False))
        self.assertEqual(lamp_heard(C, faint, ("green", 0, True)), later)

    def test_red_lit_again_of_a_movement_that_is_green(self):
        here, shown = ticked(C, wishing(C, NEW, (0,)), 3)
        self.assertEqual(shown[-1], (0,))
        dark = lamp_heard(C, here, ("red", 0, False))
        self.assertEqual(dark, {**here, "dark": (0,)})
        self.assertEqual(lamp_heard(C, dark, ("red", 0, True)), here)

    def test_red_lit_again_makes_foes_wait_anew(self):
        here, _ = ticked(C, NEW, 9)
        here = lamp_heard(C, lamp_heard(C, here, ("red", 0, False)), ("red", 0, True))
        self.assertEqual([here["ended"], may_begin_at(C, here, 1), may_begin_at(C, here, 0)], [((0, 9),), 12, 10])
        self.assertEqual(ticked(C, wishing(C, here, (1,)), 4)[1], [(), (), (1,), (1,)])

    def test_all_else_changes_nothing(self):
        here = lamp_heard(C, lamp_heard(C, ticked(C, wishing(C, NEW, (0, 2)), 4)[0], ("red", 1, False)), ("green", 2, False))
        values = list(ODD_VALUES) + [("red", 3, False), ("red", -1, False), ("red", 0, 0), ("red", 1, 1), ("green", 0, 0), ("green", 2, 1),
                                     ("Red", 0, False), ("yellow", 0, False), ("red", True, False), ("red", 0, None), ["red", 0, False],
                                     ("red", 0), ("red", 0, False, 1), ("", 0, False), (None, 0, False), (("red",), 0, False),
                                     ("red", (0,), False), ("red", "0", False), ("dark", 0, False), ("green", False, False)]
        values += [part for odd in ODD_VALUES for part in ((odd, 0, False), ("red", odd, 1), ("green", 0, odd) if odd is not False
                                                          and odd is not True else None)]
        for value in values:
            self.assertTrue(same(lamp_heard(C, here, value), here), value)


class Shown(unittest.TestCase):
    def test_against_a_plain_interlock(self):
        chance = random.Random(2)
        seen = 0
        for crossing in crossings(chance, 250):
            plain, here = PlainLock(crossing), new_interlock(crossing)
            for happening in happenings_by_chance(chance, crossing, 60, lamps=chance.choice((0, 0.05, 0.2))):
                before = copy.deepcopy(here)
                kept = here
                if happening[0] == "tick":
                    here, greens = next_shown(crossing, here)
                    self.assertTrue(same(greens, plain.tick()))
                    seen += len(greens)
                elif happening[0] == "wish":
                    here = wish_heard(crossing, here, happening[1])
                    plain.wish(happening[1])
                elif happening[0] == "lamp":
                    here = lamp_heard(crossing, here, happening[1])
                    plain.lamp(happening[1])
                else:
                    here, plain = new_interlock(crossing), PlainLock(crossing)
                self.assertTrue(same(here, plain.view()), (crossing, happening))
                self.assertTrue(same(kept, before))
        self.assertGreater(seen, 3000)

    def test_where_nothing_crosses(self):
        self.assertEqual(ticked(ALONE, wishing(ALONE, NEW, (0,)), 2)[1], [(0,), (0,)])

    def test_clearances_of_0(self):
        here, shown = ticked(AT_ONCE, wishing(AT_ONCE, NEW, (0, 1)), 1)
        self.assertEqual(shown, [(0,)])
        # The one that is green stays ahead of all that would begin.
        self.assertEqual(next_shown(AT_ONCE, here)[1], (0,))
        there, shown = ticked(AT_ONCE, wishing(AT_ONCE, here, (1,)), 2)
        self.assertEqual([shown, there["ended"]], [[(1,), (1,)], ((0, 1),)])
        self.assertEqual(ticked(AT_ONCE, wishing(AT_ONCE, there, (0, 1)), 1)[1], [(1,)])

    def test_clearances_of_12(self):
        here, shown = ticked(WIDE, wishing(WIDE, NEW, (0, 1)), 12)
        self.assertEqual(shown, [()] * 12)
        here, shown = ticked(WIDE, wishing(WIDE, here, (0, 1)), 3)
        self.assertEqual(shown, [(0,)] * 3)
        here = wishing(WIDE, here, (1,))
        self.assertEqual(may_begin_at(WIDE, here, 1), 28)
        self.assertEqual(ticked(WIDE, here, 12)[1], [()] * 12)
        here, shown = ticked(WIDE, wishing(WIDE, ticked(WIDE, here, 12)[0], (1,)), 2)
        self.assertEqual(shown, [(1,), (1,)])
        self.assertEqual(ticked(WIDE, wishing(WIDE, here, (0,)), 1)[1], [(0,)])

    def test_just_behind_the_clearance(self):
        here, _ = ticked(C, wishing(C, NEW, (0,)), 4)
        self.assertEqual(ticked(C, wishing(C, here, (1,)), 4)[1], [(), (), (1,), (1,)])
        there, _ = ticked(C, wishing(C, here, (1,)), 4)
        self.assertEqual(ticked(C, wishing(C, there, (0,)), 3)[1], [(), (0,), (0,)])

    def test_the_wish_ends(self):
        here, shown = ticked(C, wish_heard(C, NEW, (1, (0,), 4)), 6)
        self.assertEqual([shown, here["ended"], here["wished"], here["until"], here["taken"]],
                         [[(), (), (0,), (0,), (), ()], ((0, 4),), (0,), 4, 1])

    def test_lamps_that_are_out(self):
        here, _ = ticked(C, wishing(C, NEW, (0, 2)), 3)
        for value, greens in ((("green", 0, False), (2,)), (("red", 0, False), (0, 2)), (("red", 1, False), (2,)),
                              (("green", 1, False), (0, 2)), (("red", 2, False), (0, 2)), (("green", 2, False), (0,))):
            told = lamp_heard(C, here, value)
            behind, shown = next_shown(C, told)
            self.assertEqual(shown, greens, value)
            self.assertEqual([behind[field] for field in ("dark", "faint", "taken", "wished", "until")],
                             [told[field] for field in ("dark", "faint", "taken", "wished", "until")])
        # Nor does a movement begin whose foe's red lamp is out.
        self.assertEqual(ticked(C, wishing(C, lamp_heard(C, NEW, ("red", 1, False)), (0, 1)), 5)[1], [(), (), (1,), (1,), (1,)])


class MayBegin(unittest.TestCase):
    def tried(self, crossing, here, i):
        """The first tick in which the movement is green, if it alone is wished from now on."""
        for _ in range(60):
            here = wishing(crossing, here, (i,), 1)
            here, greens = next_shown(crossing, here)
            if i in greens:
                return here["time"]
        return None

    def test_by_trying(self):
        chance = random.Random(3)
        found = []
        for crossing in crossings(chance, 150):
            here = new_interlock(crossing)
            for happening in happenings_by_chance(chance, crossing, 40, lamps=0.05, falls=0.01):
                if happening[0] == "tick":
                    here = next_shown(crossing, here)[0]
                elif happening[0] != "fall":
                    here = (wish_heard if happening[0] == "wish" else lamp_heard)(crossing, here, happening[1])
                else:
                    here = new_interlock(crossing)
                i = chance.randrange(len(crossing[0]))
                told = may_begin_at(crossing, here, i)
                self.assertEqual(told, self.tried(crossing, here, i))
                found.append(told)
        self.assertGreater(found.count(None), 100)

    def test_a_lamp_bars_it_also_if_it_is_green(self):
        here, _ = ticked(C, wishing(C, NEW, (0, 2)), 3)
        self.assertEqual([may_begin_at(C, here, i) for i in range(3)], [4, 6, 4])
        self.assertEqual([may_begin_at(C, lamp_heard(C, here, ("green", 0, False)), i) for i in range(3)], [None, 6, 4])
        self.assertEqual([may_begin_at(C, lamp_heard(C, here, ("red", 1, False)), i) for i in range(3)], [None, 6, 4])
        self.assertEqual([may_begin_at(C, lamp_heard(C, here, ("red", 0, False)), i) for i in range(3)], [4, None, 4])

    def test_a_green_one_goes_on_beside_a_foe_whose_red_is_lit_again(self):
        here, _ = ticked(C, wishing(C, NEW, (0, 2)), 3)
        lit = lamp_heard(C, lamp_heard(C, here, ("red", 1, False)), ("red", 1, True))
        self.assertEqual([lit["ended"], may_begin_at(C, lit, 0), self.tried(C, lit, 0), next_shown(C, lit)[1]],
                         [((1, 3),), 4, 4, (0, 2)])

    def test_at_the_beginning(self):
        self.assertEqual([may_begin_at(C, NEW, 0), may_begin_at(C, NEW, 2), may_begin_at(ALONE, NEW, 0), may_begin_at(WIDE, NEW, 1)],
                         [3, 3, 1, 13])


if __name__ == "__main__":
    unittest.main()
