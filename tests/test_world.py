"""[13.1] to [13.6]: worlds, event by event, and what holds of all of them."""

import copy
import random
import unittest
from fractions import Fraction
from math import isqrt

from greenheld.errors import BadEvent
from greenheld.flows import carried
from greenheld.interlock import new_interlock
from greenheld.looking import allowed_squares, looked, looked_run, queue_bound, squares_of, steady
from greenheld.slack import slack_of
from greenheld.tales import judge_tale
from greenheld.timetables import judge_timetable, round_bound, table_bound, timetable
from greenheld.world import (after, cars_there, fullest_queue, is_event, judge_world, new_world, orders_now, played,
                             run_on, settled_for, shown_greens, waited)
from tests.locks import waits, widest
from tests.plain import row_by_chance, wide_town
from tests.support import EAST, ODD_VALUES, TOWN, plain_int, same, within
from tests.worlds import (LINE, SMALL, PlainWorld, event_by_chance, frame_by_chance, plain_is_event, script_by_chance,
                          world_town)

STILL = ("frame", (0, 0), (0, 0))
TABLE = ("table", ((((0, 3), (1, 1)), (2, 0)), (((1, 5),), (0, 4)), ((), (0, 0))))


def worlds(many, seed, most=25):
    """Pairs of a world at its beginning and a script of at most so many events."""
    chance = random.Random(seed)
    found = []
    for _ in range(many):
        town = world_town(chance)
        world = new_world(town, row_by_chance(chance, town[0], chance.choice((0, 3, 20))))
        found.append((world, script_by_chance(chance, town, chance.randint(0, most), lamps=chance.choice((0, 0.1, 0.25)))))
    return found


def is_sum(number, many):
    """Whether a number is the sum of so many squares."""
    if many == 1:
        return isqrt(number) ** 2 == number
    return any(is_sum(number - k * k, many - 1) for k in range(isqrt(number), -1, -1))


def number_told(call, *told):
    """The number that BadEvent tells, None if nothing is raised."""
    try:
        call(*told)
    except BadEvent as error:
        return error.number
    return None


class Beginning(unittest.TestCase):
    def test_fields(self):
        for world, _ in worlds(20, seed=1):
            town, many = world["town"], len(world["town"][1])
            self.assertTrue(same(world, {
                "town": town, "state": world["state"], "look": world["state"], "frame": 0, "began": sum(world["state"]), "came": 0,
                "gone": 0, "modes": (("look",),) * many, "locks": tuple(new_interlock(crossing) for crossing in town[1]),
                "tales": ((),) * many, "mute": (0,) * many}))
            self.assertIsNone(judge_world(world))


class Events(unittest.TestCase):
    def test_scripts_against_a_plain_world(self):
        chance = random.Random(2)
        for world, script in worlds(250, seed=3):
            plain = PlainWorld(world["town"], world["state"])
            first, at = copy.deepcopy(world), world
            for event in script:
                self.assertIs(is_event(at, event), True)
                ahead, told = copy.deepcopy(at), copy.deepcopy(event)
                self.assertTrue(same(orders_now(at), plain.orders()))
                behind = after(at, event)
                plain.happen(event)
                # No world is changed by what happens, nor is the event.
                self.assertTrue(same(at, ahead) and same(event, told))
                at = behind
                self.assertTrue(same(at, plain.view()))
                self.assertEqual(cars_there(at), sum(plain.state))
                x, tick = chance.randrange(len(plain.tales)), chance.randint(1, 40)
                self.assertEqual(shown_greens(at, x, tick), (plain.tales[x] + [()] * 40)[tick - 1])
                self.assertEqual(waited(at), tuple(x for x, mode in enumerate(plain.modes) if mode[0] == "look"))
                self.assertEqual(fullest_queue(at), min(q for q in range(len(plain.state)) if plain.state[q] == max(plain.state)))
            self.assertTrue(same(played(world, script), at))
            self.assertTrue(same(played(world, tuple(script)), at))
            self.assertTrue(same(world, first))

    def test_sixty_events_of_a_wide_town(self):
        chance = random.Random(4)
        town = wide_town(chance)
        script = script_by_chance(chance, town, 60)
        plain = PlainWorld(town, (10 ** 6,) * 8)
        for event in script:
            plain.happen(event)
        self.assertTrue(same(played(new_world(town, (10 ** 6,) * 8), script), plain.view()))

    def test_rounds_by_the_number_of_the_frame(self):
        world = after(new_world(LINE, (9, 9)), ("mode", 0, TABLE))
        pairs = []
        for _ in range(7):
            pairs.append(orders_now(world)[0])
            world = after(world, STILL)
        self.assertEqual(pairs, [TABLE[1][k % 3] for k in range(7)])
        # A mode that is told in the midst of a round does not begin it anew.
        for word in (("dark",), ("look",), ("table", TABLE[1][:1])):
            there = after(world, ("mode", 0, word))
            self.assertEqual(orders_now(there)[0], {"dark": ((), (0, 0)), "look": looked(LINE, world["look"])[0], "table": TABLE[1][0]}[word[0]])
            self.assertEqual(orders_now(after(there, ("mode", 0, TABLE)))[0], TABLE[1][1])
        one = after(world, ("mode", 0, ("table", TABLE[1][1:2])))
        self.assertEqual([orders_now(run_on(one, (0, 0), k))[0] for k in range(3)], [TABLE[1][1]] * 3)

    def test_looking_looks_at_the_look_alone(self):
        world = played(new_world(LINE, (0, 0)), [("drop", 0, 9), ("drop", 1, 4), ("drop", 0, 0)])
        self.assertEqual([world["state"], world["look"], world["came"], orders_now(world)], [(9, 4), (0, 0), 13, looked(LINE, (0, 0))])
        world = after(world, ("frame", (0, 0), (0, 5)))
        # What is there is not seen; nothing is let; detectors take five to be at queue 1.
        self.assertEqual([world["state"], world["look"], orders_now(world)], [(9, 4), (0, 5), looked(LINE, (0, 5))])
        world = after(world, ("frame", (0, 0), (0, 0)))
        self.assertEqual([world["state"], world["look"], world["gone"]], [(9, 0), (0, 0), 4])

    def test_wrongs_below_and_above_0_and_queues_seen_empty(self):
        dark = after(new_world(LINE, (3, 0)), ("mode", 0, ("dark",)))
        looks = [after(dark, ("frame", (0, 0), wrong))["look"] for wrong in ((0, 0), (2, 7), (-2, -7), (-9, 10 ** 9), (10 ** 9, 0))]
        self.assertEqual(looks, [(3, 0), (5, 0), (1, 0), (0, 0), (10 ** 9 + 3, 0)])
        self.assertEqual(played(dark, [("frame", (0, 0), (-9, 0)), ("frame", (2, 1), (0, 0)), ("frame", (0, 0), (0, 0))])["look"], (2, 1))

    def test_mute_ticks(self):
        world = after(new_world(LINE, (9, 9)), ("mode", 0, ("table", ((((0, 5),), (4, 0)),))))
        tales = []
        for ticks in (0, 1, 3, 6, 8, 13):
            there = played(world, [("mute", 0, ticks), STILL, STILL, STILL])
            tales.append("".join("0" if row else "." for row in there["tales"][0]))
            self.assertEqual(there["mute"], (0,))
        # The widest clearance is 1, so tick 1 is red anyway.
        self.assertEqual(tales, [".0000." + "00000." * 2, ".0000." + "00000." * 2, "...00." + "00000." * 2,
                                 "......" + "00000." * 2, "......" + "..000." + "00000.", "......" * 2 + ".0000."])
        self.assertEqual([played(world, [("mute", 0, ticks), STILL])["mute"] for ticks in (0, 5, 6, 7, 10 ** 6)], [(0,), (0,), (0,), (1,), (10 ** 6 - 6,)])
        self.assertEqual(played(world, [("mute", 0, 99), ("mute", 0, 2), STILL])["tales"], (((), (), (0,), (0,), (0,), ()),))

    def test_lets_are_cut_by_the_greens_that_were_shown(self):
        world = after(new_world(LINE, (20, 0)), ("mode", 0, ("table", ((((0, 5),), (4, 0)),))))
        for script, led in (([], 3), ([STILL], 4), ([STILL, ("mute", 0, 2)], 2), ([STILL, ("mute", 0, 4)], 0), ([STILL, ("mute", 0, 5)], 0),
                            ([STILL, ("lamp", 0, ("green", 0, False))], 0), ([STILL, ("lamp", 0, ("red", 1, False))], 0),
                            ([STILL, ("lamp", 0, ("red", 0, False))], 4), ([STILL, ("fall", 0)], 3), ([("mode", 0, ("dark",)), STILL], 0),
                            ([STILL, ("mode", 0, ("table", ((((0, 5),), (1, 0)),)))], 1), ([STILL, ("mode", 0, ("table", ((((0, 2), (1, 2)), (1, 1)),)))], 1)):
            ahead = played(world, script)
            behind = after(ahead, STILL)
            self.assertEqual(ahead["state"][0] - behind["state"][0], led, script)
        # Greens that go on from frame to frame: of these ticks alone all but the first let a car.
        town = (1, ((((0, None),), (), 4),))
        world = after(new_world(town, (50,)), ("mode", 0, ("table", ((((0, 4),), (3,)),))))
        self.assertEqual([run_on(world, (0,), k)["gone"] for k in range(4)], [0, 3, 6, 9])

    def test_lamps_between_frames_and_while_a_crossing_is_mute(self):
        dark = [("lamp", 0, ("red", 0, False)), ("mute", 0, 3), ("lamp", 0, ("green", 1, False))]
        world = played(new_world(LINE, (5, 5)), dark)
        self.assertEqual([world["locks"][0]["dark"], world["locks"][0]["faint"]], [(0,), (1,)])
        world = played(world, [STILL, ("lamp", 0, ("red", 0, True)), ("lamp", 0, ("green", 1, True))])
        self.assertEqual([world["locks"][0][field] for field in ("dark", "faint", "ended", "time", "taken")], [(), (), ((0, 6),), 6, 3])
        for odd in ODD_VALUES:
            self.assertTrue(same(after(world, ("lamp", 0, odd)), world))

    def test_interlocks_fall_and_the_tale_goes_on(self):
        world = run_on(new_world(LINE, (30, 0)), (0, 0), 2)
        fallen = after(world, ("fall", 0))
        self.assertEqual([fallen["locks"], fallen["tales"], fallen["mute"], fallen["frame"]], [(new_interlock(LINE[1][0]),), world["tales"], (0,), 2])
        there = run_on(fallen, (0, 0), 1)
        self.assertEqual([len(there["tales"][0]), there["locks"][0]["time"], there["locks"][0]["taken"]], [18, 6, 6])
        self.assertEqual(there["tales"][0][12:], ((), (0,), (0,), (0,), (0,), ()))
        self.assertTrue(same(after(after(world, ("mute", 0, 5)), ("fall", 0))["mute"], (5,)))

    def test_scripts_without_events(self):
        for world, _ in worlds(5, seed=5):
            self.assertTrue(same(played(world, []), world) and same(played(world, ()), world) and same(run_on(world, None, 0), world))

    def test_run_on(self):
        chance = random.Random(6)
        for world, script in worlds(30, seed=7, most=6):
            world, comings = played(world, script), row_by_chance(chance, world["town"][0], 3)
            frames = chance.randint(0, 6)
            still = (0,) * world["town"][0]
            self.assertTrue(same(run_on(world, comings, frames), played(world, [("frame", comings, still)] * frames)))

    def test_settled_for(self):
        e, counts = (1, 1), (1, 1)
        most = steady(LINE, counts, e)[1]
        told = []
        for first in range(0, 80):
            state = (first, first)
            told.append(settled_for(new_world(LINE, state), counts, e))
            self.assertIs(told[-1], squares_of(state) <= most)
        self.assertEqual(set(told), {True, False})
        # Squares of just V, and one more: each integer is the sum of four squares.
        most = steady(TOWN, (0, 0, 0, 0), (1, 100))[1]
        for squares in (most, most + 1):
            rest, state = squares, ()
            while len(state) < 3:
                state += (next(k for k in range(isqrt(rest), -1, -1) if is_sum(rest - k * k, 3 - len(state))),)
                rest -= state[-1] ** 2
            state += (isqrt(rest),)
            self.assertEqual(squares_of(state), squares)
            self.assertIs(settled_for(new_world(TOWN, state), (0, 0, 0, 0), (1, 100)), squares == most)
        most = steady(LINE, counts, e)[1]
        root = next(k for k in range(10 ** 4) if k * k > most)
        self.assertEqual([settled_for(new_world(LINE, state), counts, e) for state in ((root, 0), (root - 1, 0))], [False, True])


class WhatIsAnEvent(unittest.TestCase):
    def test_right_ones_and_wrong_ones(self):
        world = new_world(LINE, (5, 0))
        for value, right in ((STILL, True), (("frame", (0, 10 ** 60), (-10 ** 60, 3)), True), (("frame", (0, -1), (0, 0)), False),
                             (("frame", (0,), (0, 0)), False), (("frame", (0, 0), (0,)), False), (("frame", (0, 0, 0), (0, 0, 0)), False),
                             (("frame", (True, 0), (0, 0)), False), (("frame", (0, 0), (0, False)), False), (("frame", [0, 0], (0, 0)), False),
                             (("frame", (0, 0), [0, 0]), False), (["frame", (0, 0), (0, 0)], False), (("frame", (0, 0)), False),
                             (("frame", (0, 0), (0, 0), 0), False), (("lamp", 0, None), True), (("lamp", 0, [{}]), True), (("lamp", 1, ("red", 0, True)), False),
                             (("lamp", False, ("red", 0, True)), False), (("lamp", 0), False), (("lamp", 0, 1, 2), False), (["lamp", 0, 1], False),
                             (("fall", 0), True), (("fall", 1), False), (("fall", -1), False), (("fall", False), False), (("fall",), False), (("fall", 0, 0), False),
                             (("mute", 0, 0), True), (("mute", 0, 10 ** 60 - 1), True), (("mute", 0, -1), False), (("mute", 0, True), False), (("mute", 2, 1), False),
                             (("mute", 0), False), (("mode", 0, ("look",)), True), (("mode", 0, ("dark",)), True), (("mode", 0, "look"), False),
                             (("mode", 0, ["look"]), False), (("mode", 0, ("look", ())), False), (("mode", 0, ("dark", 1)), False), (("mode", 0, ("table",)), False),
                             (("mode", 0, ("table", ())), False), (("mode", 0, TABLE), True), (("mode", 0, list(TABLE)), False), (("mode", 0, ("table", list(TABLE[1]))), False),
                             (("mode", 1, TABLE), False), (("mode", 0, TABLE + ((),)), False), (("mode", 0, ("table", ((((0, 5),), (5, 0)),))), False),
                             (("mode", 0, ("table", ((((0, 6),), (4, 0)),))), False), (("mode", 0, ("table", ((((0, 5),), (4, 0)), (((2, 1),), (0, 0))))), False),
                             (("mode", 0, ("table", ((((0, 5),), (4,)),))), False), (("mode", 0, ("table", ((((0, 5),), (True, 0)),))), False),
                             (("mode", 0, ("table", (((0, 5),), (4, 0)))), False), (("mode", 0, ()), False), (("mode", 0, None), False),
                             (("drop", 1, 4), True), (("drop", 2, 4), False), (("drop", -1, 4), False), (("drop", 0, -1), False), (("drop", True, 4), False),
                             (("drop", 0, True), False), (("drop", 0), False), ((), False), (("state", 0), False), (("FRAME", (0, 0), (0, 0)), False),
                             ((("frame",), (0, 0), (0, 0)), False), ((None, 0), False), (([], 0, 0), False), (({}, 0), False), ("fall", False)):
            self.assertIs(is_event(world, value), right, value)
            self.assertIs(plain_is_event(LINE, value), right, value)
            self.assertTrue(same(number_told(after, world, value), None if right else 0))

    def test_what_is_near_and_any_value(self):
        chance = random.Random(8)
        for _ in range(60):
            town = world_town(chance)
            world, event = new_world(town, (0,) * town[0]), event_by_chance(chance, town, frames=0.2)
            for value in within(event) + [event + (0,), event[:1] * 3]:
                right = plain_is_event(town, value)
                self.assertIs(is_event(world, value), right, value)
                if not right:
                    self.assertTrue(same(number_told(after, world, value), 0))
        world = new_world(LINE, (5, 0))
        for odd in ODD_VALUES:
            for value in [odd, (odd, 0), (odd, 0, 0), ("frame", odd, (0, 0)), ("frame", (0, 0), odd), ("frame", (0, odd), (odd, 0)), ("mode", 0, (odd,)),
                          ("mode", 0, ("table", odd)), ("mode", 0, ("table", (odd,))), ("mode", 0, ("table", ((odd, (0, 0)),))),
                          ("mode", 0, ("table", (((), odd),)))] + [(word, odd, 0) for word in ("lamp", "mute", "drop", "mode")] + [
                              (word, 0, odd) for word in ("lamp", "mute", "drop", "mode", "fall", "frame")] + [("fall", odd)]:
                self.assertIs(is_event(world, value), plain_is_event(LINE, value), value)

    def test_numbers_are_the_least_ahead_of_everything(self):
        chance = random.Random(9)
        for world, script in worlds(60, seed=10, most=12):
            wrong = sorted(chance.sample(range(len(script) + 1), min(len(script), chance.randint(1, 3))))
            told = list(script)
            for k in wrong:
                told.insert(k, chance.choice(([], None, ("fall", 99), ("frame",), ("mode", 0, ("table", ())))))
            before = copy.deepcopy(told)
            number = number_told(played, world, told)
            first = next((k for k, event in enumerate(told) if not plain_is_event(world["town"], event)), None)
            self.assertTrue(same(number, first))
            self.assertTrue(same(told, before))
        self.assertEqual([number_told(played, new_world(LINE, (0, 0)), told) for told in ([STILL, STILL, 5], [5], (STILL, ("fall", 1)), [])], [2, 0, 1, None])


class Judged(unittest.TestCase):
    def test_states_and_tales_exchanged(self):
        chance = random.Random(11)
        words = []
        for world, script in worlds(120, seed=12):
            world = played(world, script)
            self.assertIsNone(judge_world(world))
            state = list(world["state"])
            q = chance.randrange(len(state))
            state[q] += chance.choice((-1, 1, 5))
            due = world["began"] + world["came"] - world["gone"]
            self.assertEqual(judge_world({**world, "state": tuple(state)}), ("cars", due, sum(state)))
            state = (-1, due + 1) + (0,) * (world["town"][0] - 2)
            if world["town"][0] > 1:
                self.assertEqual(judge_world({**world, "state": state}), ("cars", due, due))
            tales = tuple(tuple(tuple(i for i in range(len(crossing[0])) if chance.random() < 0.2) for _ in range(4)) for crossing in world["town"][1])
            faults = [(x, judge_tale(crossing, tale)) for x, (crossing, tale) in enumerate(zip(world["town"][1], tales))]
            faults = [(x, fault) for x, fault in faults if fault is not None]
            told = judge_world({**world, "tales": tales, "state": state})
            self.assertEqual(told, ("tale", *faults[0]) if faults else judge_world({**world, "state": state}))
            words.append(told and told[0])
        self.assertGreater(min(words.count("tale"), words.count("cars")), 20)

    def test_faults(self):
        world = new_world(LINE, (5, 0))
        self.assertEqual([judge_world({**world, **told}) for told in (
            {"state": (4, 1)}, {"state": (4, 0)}, {"state": (6, -1)}, {"state": (-3, 2)}, {"tales": (((0, 1),),)}, {"tales": (((0,), (1,)),), "state": (1, 1)},
            {"tales": (None,)}, {"tales": ([],)}, {"tales": (((1, 0),),)}, {"gone": 1}, {"tales": (((True,),),)})],
            [None, ("cars", 5, 4), ("cars", 5, 5), ("cars", 5, -1), ("tale", 0, ("both", 1, 0, 1)), ("tale", 0, ("early", 2, 0, 1)),
             ("tale", 0, ("form",)), ("tale", 0, ("form",)), ("tale", 0, ("form",)), ("cars", 4, 5), ("tale", 0, ("form",))])

    def test_the_least_crossing(self):
        world = new_world(TOWN, (0,) * 4)
        self.assertEqual(judge_world({**world, "tales": ((), ((0, 1),))}), ("tale", 1, ("both", 1, 0, 1)))
        self.assertEqual(judge_world({**world, "tales": (((0, 2),), None)}), ("tale", 0, ("both", 1, 0, 2)))


def quiet_ahead(world):
    """Dark frames, till each interlock has shown as many ticks without any green as its widest clearance; nobody unseen."""
    n, crossings = world["town"]
    frames = max(widest(crossing) for crossing in crossings) // crossings[0][2] + 1
    lit = [("lamp", x, (colour, i, True)) for x, crossing in enumerate(crossings) for i in range(len(crossing[0])) for colour in ("red", "green")]
    script = [("mute", x, 0) for x in range(len(crossings))] + lit + [("mode", x, ("dark",)) for x in range(len(crossings))]
    world = played(world, script)
    unseen = tuple(there - seen for there, seen in zip(world["state"], world["look"]))
    return played(world, [("frame", (0,) * n, unseen)] + [("frame", (0,) * n, (0,) * n)] * frames)


def held_towns(many, seed):
    """Triples of a town, counts with a slack above 0, and this."""
    chance = random.Random(seed)
    found = []
    while len(found) < many:
        town = world_town(chance)
        counts = row_by_chance(chance, town[0], chance.choice((0, 1, 2)))
        slack = slack_of(town, counts)
        if slack is not None and Fraction(*slack[1]) > 0:
            found.append((town, counts, slack[1]))
    return found


class ForAll(unittest.TestCase):
    def test_safe_and_none_lost(self):
        seen = 0
        for world, script in worlds(250, seed=14, most=40):
            for event in script:
                world = after(world, event)
                self.assertEqual(sum(world["state"]), world["began"] + world["came"] - world["gone"])
                self.assertGreaterEqual(min(world["state"]), 0)
                self.assertTrue(all(plain_int(cars) for cars in world["state"] + world["look"]))
            for crossing, tale in zip(world["town"][1], world["tales"]):
                self.assertEqual(len(tale), world["frame"] * crossing[2])
                self.assertIsNone(judge_tale(crossing, tale))
                for t, row in enumerate(tale):
                    seen += len(row)
                    self.assertFalse(any(waits(crossing, i, j) is not None for i in row for j in row))
            self.assertIsNone(judge_world(world))
        self.assertGreater(seen, 5000)

    def test_held_by_looking(self):
        chance = random.Random(15)
        for town, counts, e in held_towns(60, seed=16):
            world = played(new_world(town, row_by_chance(chance, town[0], 20)), script_by_chance(chance, town, 8))
            world = quiet_ahead(world)
            world = played(world, [("mode", x, ("look",)) for x in range(len(town[1]))])
            first = world["state"]
            self.assertEqual(world["look"], first)
            rows = [tuple(chance.choice((count, chance.randint(0, count))) for count in counts) for _ in range(12)]
            most = steady(town, counts, e)[1]
            for comings, (choice, state) in zip(rows, looked_run(town, first, rows)):
                ahead = world["state"]
                self.assertTrue(same(orders_now(world), choice))
                world = after(world, ("frame", comings, (0,) * town[0]))
                self.assertTrue(same(world["state"], state) and same(world["look"], state))
                self.assertLessEqual(squares_of(state), Fraction(*allowed_squares(town, counts, e, ahead)))
                if squares_of(ahead) <= most:
                    self.assertLessEqual(max(state), queue_bound(town, counts, e))
                    self.assertIs(settled_for(world, counts, e), True)
                else:
                    self.assertLess(squares_of(state), squares_of(ahead))

    def test_held_by_looking_behind_the_first_frames_of_a_new_world(self):
        chance = random.Random(17)
        for town, counts, _ in held_towns(40, seed=18):
            world, still = new_world(town, row_by_chance(chance, town[0], 30)), (0,) * town[0]
            need = [widest(crossing) for crossing in town[1]]
            while any(sum(1 for row in tale if not row) < ticks for tale, ticks in zip(world["tales"], need)):
                world = after(world, ("frame", counts, still))
            self.assertEqual(world["look"], world["state"])
            rows = [counts] * 6
            for _, state in looked_run(town, world["state"], rows):
                world = after(world, ("frame", counts, still))
                self.assertEqual(world["state"], state)

    def test_held_by_tables(self):
        chance = random.Random(19)
        tried = 0
        for town, counts, _ in held_towns(60, seed=20):
            _, shares, flows = carried(town, counts)
            table = timetable(town, shares, flows)
            if len(table) > 60:
                continue
            tried += 1
            self.assertIsNone(judge_timetable(town, counts, table))
            world = played(new_world(town, row_by_chance(chance, town[0], 20)), script_by_chance(chance, town, 8))
            world = quiet_ahead(world)
            while world["frame"] % len(table) != 0:
                world = run_on(world, (0,) * town[0], 1)
            world = played(world, [("mode", x, ("table", tuple(choice[x] for choice in table))) for x in range(len(town[1]))])
            first = world["state"]
            for k in range(1, 2 * len(table) + 4):
                comings = tuple(chance.choice((count, count, chance.randint(0, count))) for count in counts)
                self.assertEqual(orders_now(world), table[(k - 1) % len(table)])
                world = after(world, ("frame", comings, (0,) * town[0]))
                bound = round_bound if k % len(table) == 0 else table_bound
                self.assertTrue(all(cars <= most for cars, most in zip(world["state"], bound(town, counts, table, first))))
        self.assertGreater(tried, 40)

    def test_all_greens_of_quiet_frames_are_shown(self):
        chance = random.Random(21)
        for world, script in worlds(80, seed=22, most=10):
            town = world["town"]
            world = quiet_ahead(played(world, script))
            modes = [("mode", x, ("look",)) if chance.random() < 0.5 else ("mode", x, ("table", tuple(
                orders_now(new_world(town, row_by_chance(chance, town[0], 9)))[x] for _ in range(3)))) for x in range(len(town[1]))]
            world = played(world, modes)
            for _ in range(4):
                orders, ticks = orders_now(world), len(world["tales"][0])
                world = after(world, frame_by_chance(chance, town, 9))
                for x, (plan, _) in enumerate(orders):
                    crossing = town[1][x]
                    plain = PlainWorld((town[0], (crossing,)), (0,) * town[0])
                    self.assertEqual(len(world["tales"][x][ticks:]), crossing[2])
                    plain.locks[0].shown = [()] * 99
                    self.assertEqual(list(world["tales"][x][ticks:]), plain.shown(0, plan))

    def test_small_towns(self):
        for town in SMALL:
            world = played(new_world(town, (4,) * town[0]), [("frame", (1,) * town[0], (0,) * town[0])] * 8)
            self.assertIsNone(judge_world(world))
            self.assertEqual(sum(world["state"]) + world["gone"], 12 * town[0])
        self.assertEqual(new_world((4, (EAST,)), (1, 2, 3, 4))["began"], 10)


if __name__ == "__main__":
    unittest.main()
