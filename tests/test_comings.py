"""[9.1] to [9.5]: rows of cars, gates, detectors that are wrong, and what their looks lose."""

import random
import unittest
from itertools import product

from greenheld.comings import (best_worth, choice_worth, eased, error_of, excess, fullest, judge_comings, look_loss,
                               looks, next_look, seen_empty)
from greenheld.frames import run
from greenheld.leading import leading_capacities
from greenheld.looking import looked, pressures
from tests.plain import choice_by_chance, row_by_chance
from tests.support import ODD_VALUES, TOWN, plain_int, same, towns, within
from tests.test_flows import PLAIN, SHUT

THREE = (3, ((((0, 2), (1, 2)), ((0, 1, 1, 1),), 6), (((2, None),), (), 6)))


def over(count, row, first, last):
    """How many more than the count tells come from frame first to frame last."""
    return sum(row[first:last + 1]) - count * (last - first + 1)


def plain_excess(counts, rows):
    return tuple(max([0] + [over(count, [comings[q] for comings in rows], first, len(rows) - 1) for first in range(len(rows))])
                 for q, count in enumerate(counts))


def plain_judge_comings(town, counts, spare, value):
    if type(value) is not tuple:
        return ("form",)
    for comings in value:
        if type(comings) is not tuple or len(comings) != town[0] or not all(plain_int(n) and n >= 0 for n in comings):
            return ("form",)
    for last in range(len(value)):
        for q in range(town[0]):
            row = [comings[q] for comings in value]
            firsts = [first for first in range(last + 1) if over(counts[q], row, first, last) > spare]
            if firsts:
                return ("more", max(firsts), last, q)
    return None


def rows_by_chance(chance, n, frames, most):
    return tuple(row_by_chance(chance, n, chance.choice((0, most))) for _ in range(frames))


class Rows(unittest.TestCase):
    def test_against_all_stretches(self):
        chance = random.Random(1)
        faults = set()
        for town in towns(150, seed=2):
            counts = row_by_chance(chance, town[0], 2)
            rows = rows_by_chance(chance, town[0], chance.randint(0, 9), chance.choice((1, 3, 6)))
            self.assertTrue(same(excess(counts, rows), plain_excess(counts, rows)))
            for spare in (0, 1, 3, 9, 60):
                told = judge_comings(town, counts, spare, rows)
                self.assertTrue(same(told, plain_judge_comings(town, counts, spare, rows)))
                # They keep exactly if behind no frame any excess is greater.
                keeps = all(max(excess(counts, rows[:k])) <= spare for k in range(len(rows) + 1))
                self.assertEqual(told is None, keeps)
                faults.add(told and told[0])
        self.assertEqual(faults, {None, "more"})

    def test_all_small_rows_of_one_queue(self):
        town = (1, ((((0, None),), (), 3),))
        for frames in range(5):
            for cars in product(range(4), repeat=frames):
                rows = tuple((many,) for many in cars)
                for count, spare in product(range(3), range(4)):
                    self.assertEqual(judge_comings(town, (count,), spare, rows), plain_judge_comings(town, (count,), spare, rows))
                    self.assertEqual(excess((count,), rows), plain_excess((count,), rows))

    def test_rows_without_frames(self):
        self.assertEqual([excess((1, 2), ()), judge_comings(THREE, (0, 0, 0), 0, ()), fullest((1, 2), 5, 0), eased((1,), ())],
                         [(0, 0), None, (), ((), ())])

    def test_a_spare_of_0(self):
        self.assertIsNone(judge_comings(THREE, (1, 1, 0), 0, ((1, 1, 0), (0, 1, 0), (1, 0, 0))))
        self.assertEqual(judge_comings(THREE, (1, 1, 0), 0, ((1, 0, 0), (0, 2, 0), (9, 0, 0))), ("more", 1, 1, 1))

    def test_stretches_of_one_frame_and_of_all(self):
        self.assertEqual([judge_comings(THREE, (1, 1, 1), 2, value) for value in (
            ((4, 0, 0),), ((0, 0, 0), (3, 4, 4)), ((2, 0, 0), (2, 0, 0), (2, 0, 0)), ((2, 2, 0), (2, 2, 3), (1, 2, 1)),
            ((3, 0, 0), (1, 0, 0), (2, 0, 0)), ((3, 0, 0), (0, 0, 0), (3, 0, 0)))],
            [("more", 0, 0, 0), ("more", 1, 1, 1), ("more", 0, 2, 0), ("more", 0, 2, 1), ("more", 0, 2, 0), ("more", 0, 2, 0)])
        self.assertEqual(judge_comings(THREE, (1, 1, 1), 1, ((3, 0, 0), (0, 0, 9))), ("more", 0, 0, 0))
        # Of stretches that end alike the shortest one is told, of frames the least, of queues the least.
        self.assertEqual(judge_comings(THREE, (0, 0, 0), 3, ((9, 0, 0),)), ("more", 0, 0, 0))
        self.assertEqual(judge_comings(THREE, (0, 0, 0), 3, ((2, 1, 0), (1, 2, 0), (1, 1, 0))), ("more", 0, 2, 0))
        self.assertEqual(judge_comings(THREE, (0, 0, 0), 3, ((0, 2, 1), (3, 1, 2), (0, 1, 1))), ("more", 0, 2, 1))

    def test_faults_of_form(self):
        for value in (None, [(0, 0, 0)], ((0, 0),), ((0, 0, 0, 0),), ([0, 0, 0],), ((0, 0, -1),), ((0, True, 0),), (0, 0, 0),
                      ((0, 0, None),), ((9, 9, 9), (0, 0)), ((0, 0, 0), 0), {}, "x", ((),)):
            self.assertEqual(judge_comings(THREE, (1, 1, 1), 0, value), ("form",), value)

    def test_what_is_near_and_any_value(self):
        chance = random.Random(3)
        for town in towns(20, seed=4, most_queues=3):
            rows = rows_by_chance(chance, town[0], 3, 2)
            for value in within(rows) + list(ODD_VALUES) + [(odd,) for odd in ODD_VALUES]:
                self.assertTrue(same(judge_comings(town, (1,) * town[0], 1, value),
                                     plain_judge_comings(town, (1,) * town[0], 1, value)), value)
        for odd in ODD_VALUES:
            value = ((odd, 0),)
            self.assertTrue(same(judge_comings(PLAIN, (1, 1), 1, value), plain_judge_comings(PLAIN, (1, 1), 1, value)))

    def test_fullest(self):
        chance = random.Random(5)
        for town in towns(60, seed=6):
            counts, spare, frames = row_by_chance(chance, town[0], 3), chance.choice((0, 1, 5)), chance.randint(0, 7)
            full = fullest(counts, spare, frames)
            self.assertTrue(same(full, tuple(tuple(count + spare * (k == 0) for count in counts) for k in range(frames))))
            self.assertIsNone(judge_comings(town, counts, spare, full))
            rows = rows_by_chance(chance, town[0], frames, 3)
            if judge_comings(town, counts, spare, rows) is None:
                for k in range(frames + 1):
                    self.assertTrue(all(sum(row[q] for row in rows[:k]) <= sum(row[q] for row in full[:k])
                                        for q in range(town[0])))
            if frames:
                more = full[:-1] + (tuple(many + (q == 0) for q, many in enumerate(full[-1])),)
                self.assertEqual(judge_comings(town, counts, spare, more)[2:], (frames - 1, 0))

    def test_gates(self):
        chance = random.Random(7)
        for town in towns(80, seed=8):
            counts = row_by_chance(chance, town[0], 3)
            rows = rows_by_chance(chance, town[0], chance.randint(0, 9), chance.choice((2, 5)))
            inside, outside = eased(counts, rows)
            self.assertTrue(all(many <= count for row in inside for many, count in zip(row, counts)))
            self.assertTrue(same(outside, tuple(plain_excess(counts, rows[:k + 1]) for k in range(len(rows)))))
            waiting = [0] * town[0]
            for k, comings in enumerate(rows):
                for q in range(town[0]):
                    there = waiting[q] + comings[q]
                    waiting[q] = max(0, there - counts[q])
                    self.assertEqual((inside[k][q], outside[k][q]), (min(there, counts[q]), waiting[q]))
            self.assertTrue(same(inside, tuple(map(tuple, inside))))
            spare = max([0] + [many for row in outside for many in row])
            self.assertIsNone(judge_comings(town, counts, spare, rows))

    def test_great_numbers(self):
        rows = ((10 ** 9, 0),) * 200
        self.assertEqual(excess((1, 10 ** 9), rows), (200 * (10 ** 9 - 1), 0))
        self.assertEqual(judge_comings(PLAIN, (10 ** 9 - 1, 0), 100, rows), ("more", 0, 100, 0))
        self.assertIsNone(judge_comings(PLAIN, (10 ** 9 - 1, 0), 200, rows))


class Detectors(unittest.TestCase):
    def test_next_look(self):
        self.assertEqual([next_look((5, 5, 5), (1, 1, 1), (4, 1, 0), (0, 0, 0)), next_look((1, 0, 2), (9, 0, 3), (0, 2, 3), (0, -3, 4)),
                          next_look((1,), (3,), (2,), (0,)), next_look((1,), (3,), (2,), (-1,)), next_look((), (), (), ())],
                         [(8, 5, 4), (0, 0, 6), (0,), (0,), ()])

    def test_seen_empty(self):
        self.assertEqual([seen_empty((3, 4, 0), (0, 1, 0)), seen_empty((3, 4), (9, 9)), seen_empty((10 ** 9,), (0,))],
                         [(0, 4, 0), (3, 4), (0,)])

    def test_error_of(self):
        self.assertEqual([error_of((3, 4), (3, 4)), error_of((0, 4), (3, 4)), error_of((3, 9), (1, 4)), error_of((), ())],
                         [0, 3, 5, 0])

    def test_looks_frame_by_frame(self):
        chance = random.Random(9)
        for town in towns(100, seed=10):
            state = row_by_chance(chance, town[0], 6)
            rows = rows_by_chance(chance, town[0], chance.randint(0, 12), 3)
            choices = [choice_by_chance(chance, town) for _ in rows]
            wrongs = [tuple(chance.choice((0, 0, chance.randint(-4, 4))) for _ in state) for _ in rows]
            told = looks(town, state, list(rows), choices, wrongs)
            self.assertIs(type(told), list)
            self.assertEqual(len(told), len(rows))
            look, ahead, off = list(state), state, [0] * town[0]
            for k, behind in enumerate(run(town, state, rows, choices)):
                for q in range(town[0]):
                    look[q] = max(0, look[q] + behind[q] - ahead[q] + wrongs[k][q]) if behind[q] else 0
                    # What it is off by comes of the wrongs since it was last seen empty.
                    off[q] = off[q] + abs(wrongs[k][q]) if behind[q] else 0
                    self.assertLessEqual(abs(look[q] - behind[q]), off[q])
                self.assertTrue(same(told[k], tuple(look)))
                self.assertEqual(error_of(told[k], behind), max(abs(a - b) for a, b in zip(look, behind)))
                ahead = behind

    def test_queues_seen_empty_go_into_the_next_look(self):
        full = ((((0, 5),), (4, 0)),)
        still = ((((0, 5),), (0, 0)),)
        self.assertEqual(looks(PLAIN, (4, 2), [(0, 0), (3, 0)], [full, still], [(7, 1), (0, 0)]), [(0, 3), (3, 3)])
        self.assertEqual(looks(PLAIN, (4, 2), [(1, 0), (3, 0)], [full, still], [(7, -9), (-10, 1)]), [(8, 0), (1, 1)])
        self.assertEqual(looks(PLAIN, (4, 2), [], [], []), [])

    def test_no_wrongs_see_what_is_there(self):
        chance = random.Random(11)
        for town in towns(20, seed=12):
            state, rows = row_by_chance(chance, town[0], 6), rows_by_chance(chance, town[0], 5, 3)
            choices = [choice_by_chance(chance, town) for _ in rows]
            self.assertEqual(looks(town, state, rows, choices, [(0,) * town[0]] * 5), run(town, state, rows, choices))


class Worths(unittest.TestCase):
    def test_by_plain_sums(self):
        chance = random.Random(13)
        for town in towns(80, seed=14) + [SHUT, TOWN]:
            state = row_by_chance(chance, town[0], 20)
            best = best_worth(town, state)
            self.assertTrue(plain_int(best))
            self.assertEqual(best, sum(max(pressed) for pressed in pressures(town, state)))
            self.assertEqual(choice_worth(town, state, looked(town, state)), best)
            for _ in range(6):
                choice = choice_by_chance(chance, town)
                worth = sum(many * (state[q] - (0 if to is None else state[to]))
                            for crossing, (_, lets) in zip(town[1], choice) for (q, to), many in zip(crossing[0], lets))
                self.assertEqual(choice_worth(town, state, choice), worth)
                self.assertLessEqual(worth, best)

    def test_below_0(self):
        town = (2, ((((0, 1), (1, None)), (), 4),))
        self.assertEqual([choice_worth(town, (2, 7), ((((0, 4),), (3, 0)),)), choice_worth(town, (2, 7), ((((0, 4),), (3, 1)),)),
                          best_worth(town, (2, 7)), best_worth(town, (0, 0))], [-15, -8, 21, 0])

    def test_looks_that_are_off_lose_little(self):
        chance = random.Random(15)
        for town in towns(100, seed=16):
            loss = 4 * sum(max(sum(capacity) for capacity in leading_capacities(crossing)) for crossing in town[1])
            for e in (0, 1, 2, 7):
                self.assertEqual(look_loss(town, e), loss * e)
                state = row_by_chance(chance, town[0], 12)
                look = tuple(max(0, cars + chance.choice((-e, 0, e))) for cars in state)
                self.assertLessEqual(error_of(look, state), e)
                self.assertGreaterEqual(choice_worth(town, state, looked(town, look)), best_worth(town, state) - look_loss(town, e))
        self.assertEqual([look_loss(PLAIN, 10 ** 6), look_loss(THREE, 3), look_loss(TOWN, 0)], [16 * 10 ** 6, 108, 0])


if __name__ == "__main__":
    unittest.main()
